import PyProof.Rows.All
import Wide.All
import OpenK.AllK
import Wide.FinOn
import HandS.ForMost
import HandS.TupSets
import HandS.Strs
import KE.SortData
import HandS.IsInst
import HandS.SetKeys
import HandS.StrMore
import HandS.Star
import HandS.TupAny
import HandS.Wide
import HandS.Style
import HandS.Codes
import HandS.TryOnly
import PySem.Challenge.RW_shownpart_k01_terms_recognized
set_option Elab.async false
set_option linter.all false
set_option maxRecDepth 100000
set_option maxHeartbeats 4000000
/-! Sets of tuples whose items are ints or texts: made from a list, and counted. -/
namespace Kx
open PySem PySem.Spec PyProof.Rows L2

/-- the tuple at b holds the keys k -/
def TupK (P : Program) (w : World) (h : Heap) (k : List Key) (b : Addr) : Prop := IsTupleKey (mixKind P w) h k b
def hsK (P : Program) (w : World) (k : List Key) : Int := tupleKeyHash (mixKind P w) k
abbrev Row := Addr × List Key
def rowsK (P : Program) (w : World) (L : List Row) : List (Int × Value) := L.map fun p => (hsK P w p.2, Value.ref p.1)
def keysK (L : List Row) : List (List Key) := L.map Prod.snd

/-- the c-th step of the way of h -/
def stp (t : SetTable) (h : Int) (c : Nat) : SetTable.Probe := nth t.mask (runAt t.mask (SetTable.bits h % (t.mask + 1)) (SetTable.bits h)) c
theorem stp_j (t : SetTable) (h : Int) (c : Nat) : (stp t h c).j = way t.mask h c := rfl
theorem stp_add (t : SetTable) (h : Int) (c q : Nat) : nth t.mask (stp t h c) q = stp t h (c + q) := (nth_add t.mask c _ q).symm
theorem nth_nodummy (m : Nat) : ∀ (n : Nat) (p : SetTable.Probe), p.dummy = none → (nth m p n).dummy = none := by
  intro n
  induction n with
  | zero => exact fun p h => h
  | succ n ih =>
    intro p h
    apply ih (adv m p)
    show (adv m p).dummy = none
    simp only [adv]
    split <;> exact h
theorem stp_nodummy (t : SetTable) (h : Int) (c : Nat) : (stp t h c).dummy = none := nth_nodummy _ c _ rfl

section
variable {P : Program} {w : World} {A : Around} {E : Value → Shared → Prop} {s : Shared}

theorem items_plain {k : List Key} {vs : List Value} (h : ItemsAre (mixKind P w) k vs) :
    ∀ v, v ∈ vs → (∃ i t, v = Value.int i t) ∨ ∃ x t, v = Value.str x t := by
  induction h with
  | nil => exact fun v hv => nomatch hv
  | cons h1 _ ih =>
    intro v hv
    rcases List.mem_cons.mp hv with e | hv
    · subst e
      rcases keyIs_shape h1 with ⟨i, t, _, e⟩ | ⟨x, t, _, e⟩
      · exact .inl ⟨i, t, e⟩
      · exact .inr ⟨x, t, e⟩
    · exact ih v hv
/-- a tuple of ints and texts is of no class statement -/
theorem ofClass_tupK {k : List Key} {b : Addr} {Q : Bool → Shared → Prop} (hk : TupK P w s.heap k b) (q : Q false s) :
    wpAny (model P w) A (ofAClassStatement 8 (.ref b)) Q E s := by
  have ty := IsTupleKey.typeIs hk
  obtain ⟨o, its, n, h1, _, h2, h3⟩ := hk
  have pl := items_plain h3
  unfold ofAClassStatement
  apply wpAny_bind (wpAny_typeOf ty _)
  dsimp only
  have tt : (("tuple" : String) == "tuple") = true := by decide
  rw [if_pos tt]
  try apply wpAny_bind (wpAny_pure _)
  simp only [Bool.not_true, Bool.false_eq_true, if_false]
  show wpAny _ _ (seqItems? (.ref b) >>= _) _ _ s
  apply wpAny_bind (wpAny_seqItems h1 h2 _)
  dsimp only
  apply wpAny_bind
  show wpAny _ _ (forIn its _ _) _ _ s
  rw [← Array.forIn_toList]
  apply wpAny_forIn_list _ (fun rest r s' => r.1 = none ∧ s' = s ∧ ∀ v, v ∈ rest → (∃ i t, v = Value.int i t) ∨ ∃ x t, v = Value.str x t) _ _ _ _ _ ⟨rfl, rfl, pl⟩
  · rintro v rest r s' ⟨hr, rfl, hall⟩
    have e0 : ofAClassStatement 7 v = pure false := by
      rcases hall v List.mem_cons_self with ⟨i, t, rfl⟩ | ⟨x, t, rfl⟩ <;> rfl
    rw [e0]
    apply wpAny_bind (wpAny_pure _)
    simp only [Bool.false_eq_true, if_false]
    exact wpAny_pure ⟨rfl, rfl, fun u hu => hall u (List.mem_cons_of_mem _ hu)⟩
  · rintro ⟨r1, r2⟩ s' ⟨hr, rfl, _⟩
    cases hr
    exact wpAny_pure q
/-- whatever is said of a tuple's hash: a Bool, and the state stays -/
theorem byValue_tupK {k : List Key} {b : Addr} {Q : Bool → Shared → Prop} (hk : TupK P w s.heap k b) (q : ∀ c, Q c s) :
    wpAny (model P w) A (hashByValue 8 (.ref b)) Q E s := by
  have ty := IsTupleKey.typeIs hk
  obtain ⟨o, its, n, h1, _, h2, h3⟩ := hk
  have pl := items_plain h3
  unfold hashByValue
  apply wpAny_bind (wpAny_specialOf ty F.slot_tuple_hash.lookup _)
  show wpAny _ _ (seqItems? (.ref b) >>= _) _ _ s
  apply wpAny_bind (wpAny_seqItems h1 h2 _)
  apply wpAny_bind
  show wpAny _ _ (forIn its _ _) _ _ s
  rw [← Array.forIn_toList]
  apply wpAny_forIn_list _ (fun rest r s' => s' = s ∧ ∀ v, v ∈ rest → (∃ i t, v = Value.int i t) ∨ ∃ x t, v = Value.str x t) _ _ _ _ _ ⟨rfl, pl⟩
  · rintro v rest r s' ⟨rfl, hall⟩
    have tl : ∀ v, v ∈ rest → (∃ i t, v = Value.int i t) ∨ ∃ x t, v = Value.str x t := fun u hu => hall u (List.mem_cons_of_mem _ hu)
    have e0 : ∃ c, hashByValue 7 v = pure c := by
      rcases hall v List.mem_cons_self with ⟨i, t, rfl⟩ | ⟨x, t, rfl⟩
      · exact ⟨true, rfl⟩
      · exact ⟨false, rfl⟩
    obtain ⟨c, e0⟩ := e0
    rw [e0]
    apply wpAny_bind (wpAny_pure _)
    cases c
    · simp only [Bool.not_false, if_true]
      exact wpAny_pure (wpAny_pure (q _))
    · simp only [Bool.not_true, Bool.false_eq_true, if_false]
      exact wpAny_pure ⟨rfl, tl⟩
  · rintro ⟨r1, r2⟩ s' ⟨rfl, _⟩
    cases r1
    · exact wpAny_pure (q _)
    · exact wpAny_pure (q _)
/-- a search among such tuples shows nothing -/
theorem unseen_tupK {k : List Key} {b : Addr} {Q : Bool → Shared → Prop} (hk : TupK P w s.heap k b) {ys : List Value}
    (hy : ∀ y, y ∈ ys → ∃ k' c, y = Value.ref c ∧ TupK P w s.heap k' c) (q : Q false s) : wpAny (model P w) A (searchCouldBeSeen (.ref b) ys) Q E s := by
  unfold searchCouldBeSeen
  apply wpAny_bind
  apply wpAny_forIn_list _ (fun rest r s' => r.1 = none ∧ s' = s ∧ ∀ y, y ∈ rest → ∃ k' c, y = Value.ref c ∧ TupK P w s.heap k' c) _ _ _ _ _ ⟨rfl, rfl, hy⟩
  · rintro v rest r s' ⟨hr, rfl, hall⟩
    obtain ⟨k', c, rfl, hc⟩ := hall v List.mem_cons_self
    have tl : ∀ y, y ∈ rest → ∃ k' c, y = Value.ref c ∧ TupK P w s'.heap k' c := fun u hu => hall u (List.mem_cons_of_mem _ hu)
    have fin : wpAny (model P w) A (pure (ForInStep.yield r)) (fun x s1 => match x with
      | .yield b' => b'.1 = none ∧ s1 = s' ∧ ∀ y, y ∈ rest → ∃ k' c, y = Value.ref c ∧ TupK P w s'.heap k' c
      | .done _ => False) E s' := wpAny_pure ⟨hr, rfl, tl⟩
    dsimp only
    by_cases hv : (b == c || (carriedByValue (.ref b) && carriedByValue (.ref c))) = true
    · exact wp_if_pos hv (wpAny_pure ⟨rfl, rfl, tl⟩)
    · apply wp_if_neg hv
      apply wpAny_bind (wpAny_eqIsQuiet_tuple hk _)
      simp only [Bool.not_true, Bool.false_eq_true, if_false]
      apply wpAny_bind (wpAny_eqIsQuiet_tuple hc _)
      simp only [Bool.not_true, Bool.false_eq_true, if_false]
      apply wpAny_bind (ofClass_tupK hk _)
      simp only [Bool.false_eq_true, if_false]
      apply wpAny_bind (ofClass_tupK hc _)
      simp only [Bool.false_eq_true, if_false]
      exact wpAny_pure ⟨rfl, rfl, tl⟩
  · rintro ⟨r1, r2⟩ s' ⟨hr, rfl, _⟩
    cases hr
    exact wpAny_pure q

/-- the set at a: its members, its table -/
structure SetK (P : Program) (w : World) (h : Heap) (a : Addr) (L : List Row) (es : Array (Int × Value)) (ep : Nat) (t : SetTable) : Prop where
  obj : ∃ o, h.get? a = some o ∧ o.ExactSet ∧ o.data = .set es ep t
  rws : es.toList = rowsK P w L
  tbl : TabOk t (L.map fun p => hsK P w p.2)
  uni : (keysK L).Nodup
  mem : ∀ p, p ∈ L → TupK P w h p.2 p.1
  rom : L.length * 5 < t.mask * 3
  low : L.length < 64
variable {a : Addr} {L : List Row} {es : Array (Int × Value)} {ep : Nat} {t : SetTable}
theorem rowsK_len {es : Array (Int × Value)} {L : List Row} (h : es.toList = rowsK P w L) : es.size = L.length := by
  have e : es.toList.length = (rowsK P w L).length := by rw [h]
  simpa [rowsK] using e
theorem rowsK_get {es : Array (Int × Value)} {L : List Row} (h : es.toList = rowsK P w L) {i : Nat} {p : Row} (hp : L[i]? = some p) : es[i]? = some (hsK P w p.2, Value.ref p.1) := by
  have e : es.toList[i]? = some (hsK P w p.2, Value.ref p.1) := by
    rw [h]
    simp [rowsK, hp]
  rwa [Array.getElem?_toList] at e
theorem fits_of {t : SetTable} {n m : Nat} (h1 : t.dummies = #[]) (h2 : t.place.size = n) (h3 : n ≤ t.mask) : t.fits n = true := by
  simp only [SetTable.fits, SetTable.fill, h1, h2]
  simp
  exact h3
theorem SetK.fit (R : SetK P w s.heap a L es ep t) : t.fits es.size = true := by
  have z := rowsK_len R.rws
  have y := R.tbl.sz
  have x := R.rom
  rw [List.length_map] at y
  exact fits_of (m := 0) R.tbl.dm (by omega) (by omega)
theorem SetK.stays (R : SetK P w s.heap a L es ep t) : ¬ t.gaveWay = true := by
  simp only [SetTable.gaveWay, mask_odd R.tbl.mok]
  decide

/-- a search, from the c-th step of the way on; K: the first empty slot -/
theorem searchK (R : SetK P w s.heap a L es ep t) {x : Addr} {k : List Key} (hx : TupK P w s.heap k x) (hu : A.units < cLine) {K : Nat} (hf : K < 10 * SetTable.turns t.mask)
    (hK : way t.mask (hsK P w k) K ∉ t.place.toList) (hb : ∀ c, c < K → way t.mask (hsK P w k) c ∈ t.place.toList) {Q : SetFound → Shared → Prop}
    (yes : k ∈ keysK L → Q (.there none) s) (no : k ∉ keysK L → Q (.free (way t.mask (hsK P w k) K) false) s) :
    ∀ (f c : Nat) (st : Option SetTable.Probe), st.getD (t.probeStart (hsK P w k)) = stp t (hsK P w k) c → c ≤ K → K - c < f →
      (∀ (i : Nat) p, L[i]? = some p → p.2 = k → ∃ d, c ≤ d ∧ d < K ∧ t.place.toList[i]? = some (way t.mask (hsK P w k) d)) →
      wpAny (model P w) A (setSearchFrom a (.ref x) (hsK P w k) true f st) Q E s := by
  intro f
  induction f with
  | zero => exact fun c st _ _ h => absurd h (Nat.not_lt_zero _)
  | succ f ih =>
  intro c st hst hc hlt hre
  obtain ⟨o, ho, hex, hd⟩ := R.obj
  generalize hH : hsK P w k = Z at *
  rw [setSearchFrom_succ]
  apply wpAny_bind (wpAny_setState_of ho hd R.fit _)
  dsimp only
  apply wp_if_neg R.stays
  try apply wpAny_bind (wpAny_pure _)
  have jw : ∀ q, (nth t.mask (stp t Z c) q).j = way t.mask Z (c + q) := fun q => by rw [stp_add, stp_j]
  have eK : c + (K - c) = K := by omega
  have at_ : ∀ (i : Nat) p, L[i]? = some p → (fun i => (es[i]?.map (·.1)).getD 0) i = hsK P w p.2 := fun i p hp => by
    simp only [rowsK_get R.rws hp, Option.map_some, Option.getD_some]
  rcases go_spec t R.tbl.ris R.tbl.dm (fun i => (es[i]?.map (·.1)).getD 0) Z (10 * SetTable.turns t.mask) (K - c) (stp t Z c) (stp_nodummy t Z c) (by omega)
      (fun q hq => by rw [jw]; exact hb _ (by omega)) (by rw [jw, eK]; exact hK) with ⟨q, i, hq, hi, hh, hno, hpr⟩ | ⟨hno, hpr⟩
  · -- a candidate at the (c + q)-th step
    rw [jw] at hi
    have pr : t.probe (fun i => (es[i]?.map (·.1)).getD 0) Z (st.getD (t.probeStart Z)) = some (.candidate (way t.mask Z (c + q)) i (stp t Z (c + (q + 1)))) := by
      rw [hst, ← jw, ← stp_add]
      exact hpr
    rw [pr]
    dsimp only
    have hil : i < L.length := by
      have h1 := (List.getElem?_eq_some_iff.mp hi).1
      have h2 := R.tbl.sz
      rw [List.length_map] at h2
      rw [Array.length_toList, h2] at h1
      exact h1
    obtain ⟨p, hp⟩ : ∃ p, L[i]? = some p := ⟨L[i], List.getElem?_eq_getElem hil⟩
    have pm : p ∈ L := List.mem_of_getElem? hp
    have pe := rowsK_get R.rws hp
    have sl : t.slot (way t.mask Z (c + q)) = .live i := slot_live R.tbl.ris hi
    have go : wpAny (model P w) A (searchRest a (.ref x) Z true f es t (way t.mask Z (c + q)) i (stp t Z (c + (q + 1)))) Q E s := by
      unfold searchRest
      rw [pe]
      dsimp only
      apply wpAny_bind (wpAny_holding (wpAny_eqBool_tuple hu (R.mem p pm) hx _))
      apply wpAny_bind (wpAny_setState_of ho hd R.fit _)
      dsimp only
      by_cases hpk : p.2 = k
      · exact wp_if_pos (by simp [hpk]) (wpAny_pure (yes (List.mem_map.mpr ⟨p, pm, hpk⟩)))
      · apply wp_if_neg (by simp [hpk])
        try apply wpAny_bind (wpAny_pure _)
        rw [sameMem]
        dsimp only
        simp only [if_true, sl, pe]
        apply wpAny_bind (wpAny_isSame_ref_self (wpAny_bind (wpAny_pure _)))
        simp only [if_true]
        apply wp_if_neg (by simp [hpk])
        apply ih (c + (q + 1)) _ rfl (by omega) (by omega)
        intro i0 p0 h0 hk0
        obtain ⟨d, d1, d2, d3⟩ := hre i0 p0 h0 hk0
        refine ⟨d, ?_, d2, d3⟩
        have z0 : hsK P w p0.2 = Z := by rw [hk0, hH]
        by_cases z : d < c + q
        · exact absurd ((at_ i0 p0 h0).trans z0) (hno (d - c) i0 (by omega) (by rw [jw, show c + (d - c) = d by omega]; exact d3))
        · by_cases y : d = c + q
          · subst y
            have s0 := slot_live R.tbl.ris d3
            rw [sl] at s0
            injection s0 with s0
            subst s0
            rw [hp] at h0
            exact absurd ((congrArg Prod.snd (Option.some.inj h0)).trans hk0) hpk
          · omega
    by_cases hl : t.led = true
    · apply wp_if_neg (by simp [hl])
      try apply wpAny_bind (wpAny_pure _)
      exact go
    · apply wp_if_pos (by simp [hl])
      apply wpAny_bind (unseen_tupK hx _ _)
      · intro y hy
        obtain ⟨e, he, rfl⟩ := List.mem_map.mp hy
        have he2 : e ∈ es.toList := by simpa using (by simpa using he : e ∈ es ∧ e.1 = Z).1
        rw [R.rws] at he2
        obtain ⟨p2, hp2, rfl⟩ := List.mem_map.mp he2
        exact ⟨p2.2, p2.1, rfl, R.mem p2 hp2⟩
      · apply wp_if_neg (by decide)
        try apply wpAny_bind (wpAny_pure _)
        exact go
  · -- the empty slot
    have pr : t.probe (fun i => (es[i]?.map (·.1)).getD 0) Z (st.getD (t.probeStart Z)) = some (.empty (way t.mask Z K) none) := by
      have e2 : (nth t.mask (stp t Z c) (K - c)).j = way t.mask Z K := by rw [jw, eK]
      rw [hst, ← e2]
      exact hpr
    rw [pr]
    dsimp only
    apply wpAny_pure (no _)
    intro hm
    obtain ⟨p0, h0, hk0⟩ := List.mem_map.mp hm
    obtain ⟨i0, hi0⟩ := List.mem_iff_getElem?.mp h0
    obtain ⟨d, d1, d2, d3⟩ := hre i0 p0 hi0 hk0
    exact hno (d - c) i0 (by omega) (by rw [jw, show c + (d - c) = d by omega]; exact d3) ((at_ i0 p0 hi0).trans (by rw [show p0.2 = k from hk0, hH]))
/-- the search that adding asks for -/
theorem searchK0 (R : SetK P w s.heap a L es ep t) {x : Addr} {k : List Key} (hx : TupK P w s.heap k x) (hu : A.units < cLine) {Q : SetFound → Shared → Prop}
    (yes : k ∈ keysK L → Q (.there none) s)
    (no : ∀ K, k ∉ keysK L → way t.mask (hsK P w k) K ∉ t.place.toList → (∀ c, c < K → way t.mask (hsK P w k) c ∈ t.place.toList) → Q (.free (way t.mask (hsK P w k) K) false) s) :
    wpAny (model P w) A (setSearch a (.ref x) (hsK P w k) true) Q E s := by
  have rm := R.rom
  obtain ⟨K, hf, hK, hb⟩ := R.tbl.first (by rw [List.length_map]; omega) (hsK P w k)
  have big : K < 100000 := by
    refine Nat.lt_trans hf ?_
    unfold SetTable.turns
    rcases R.tbl.mok with e | e | e <;> rw [e] <;> decide
  unfold setSearch
  apply searchK R hx hu hf hK hb yes (fun hn => no K hn hK hb) 100000 0 none rfl (Nat.zero_le _) (by omega)
  intro i p hp hk
  have hl : i < t.place.toList.length := by
    have h1 := (List.getElem?_eq_some_iff.mp hp).1
    have h2 := R.tbl.sz
    rw [List.length_map] at h2
    rw [Array.length_toList]
    omega
  have hj := List.getElem?_eq_getElem hl
  have hi : (L.map fun p => hsK P w p.2)[i]? = some (hsK P w k) := by simp [hp, hk]
  obtain ⟨c, hc, e⟩ := R.tbl.before hK hi hj
  exact ⟨c, Nat.zero_le _, hc, by rw [hj, e]⟩

/-- a tuple stands while the set changes -/
theorem TupK.but {h h' : Heap} {k : List Key} {a b : Addr} {o : Obj} {es : Array (Int × Value)} {ep : Nat} {t : SetTable} (hb : TupK P w h k b) (ho : h.get? a = some o) (hd : o.data = .set es ep t) (hs : Heap.SameBut a h h') : TupK P w h' k b := by
  obtain ⟨u, its, n, h1, h2, h3, h4⟩ := hb
  have ne : b ≠ a := fun e => by
    subst e
    rw [h1] at ho
    cases ho
    rw [h3] at hd
    cases hd
  exact ⟨u, its, n, (hs.2 b ne).trans h1, h2, h3, h4⟩
theorem TupK.kept {h h' : Heap} {k : List Key} {b : Addr} (x : TupK P w h k b) (hk : ∀ c o, h.get? c = some o → h'.get? c = some o) : TupK P w h' k b := by
  obtain ⟨u, its, n, h1, r⟩ := x
  exact ⟨u, its, n, hk _ _ h1, r⟩
theorem ins_perm {α : Type} (L : List α) (p : Nat) (x : α) : (L.take p ++ x :: L.drop p).Perm (x :: L) :=
  List.perm_middle.trans (by rw [List.take_append_drop])
theorem range_get {α : Type} (L : List α) : (List.range L.length).filterMap (fun i => L[i]?) = L := by
  have key : ∀ n, n ≤ L.length → (List.range n).filterMap (fun i => L[i]?) = L.take n := by
    intro n
    induction n with
    | zero => exact fun _ => rfl
    | succ n ih =>
      intro hn
      have e := List.getElem?_eq_getElem (show n < L.length from hn)
      rw [List.range_succ, List.filterMap_append, ih (by omega), List.take_succ, e]
      simp [e]
  rw [key _ (Nat.le_refl _), List.take_length]
/-- the rows in another order -/
theorem rows_order (L : List Row) (es : Array (Int × Value)) (ord : Array Nat) (hr : es.toList = rowsK P w L) (hp : ord.toList.Perm (List.range L.length)) :
    ∃ L2, (ord.filterMap (es[·]?)).toList = rowsK P w L2 ∧ L2.Perm L ∧ (L2.map fun p => hsK P w p.2) = ord.toList.map fun i => (es.map (·.1)).getD i 0 := by
  have sz := rowsK_len hr
  have key : ∀ l : List Nat, (∀ i, i ∈ l → i < L.length) → l.filterMap (fun i => es[i]?) = rowsK P w (l.filterMap fun i => L[i]?) ∧
      ((l.filterMap fun i => L[i]?).map fun p => hsK P w p.2) = l.map fun i => (es.map (·.1)).getD i 0 := by
    intro l
    induction l with
    | nil => exact fun _ => ⟨rfl, rfl⟩
    | cons i l ih =>
      intro hl
      have hi := List.getElem?_eq_getElem (hl i List.mem_cons_self)
      obtain ⟨e1, e2⟩ := ih fun j hj => hl j (List.mem_cons_of_mem _ hj)
      have ee := rowsK_get hr hi
      constructor
      · rw [List.filterMap_cons_some ee, List.filterMap_cons_some hi, e1]
        rfl
      · rw [List.filterMap_cons_some hi, List.map_cons, List.map_cons, e2]
        have e3 : (es.map (·.1))[i]? = some (hsK P w (L[i]'(hl i List.mem_cons_self)).2) := by rw [Array.getElem?_map, ee]; rfl
        rw [show (es.map (·.1)).getD i 0 = hsK P w (L[i]'(hl i List.mem_cons_self)).2 by simp [Array.getD_eq_getD_getElem?, e3]]
  obtain ⟨e1, e2⟩ := key ord.toList fun i hi => List.mem_range.mp (hp.mem_iff.mp hi)
  refine ⟨ord.toList.filterMap fun i => L[i]?, ?_, ?_, e2⟩
  · rw [Array.toList_filterMap]
    exact e1
  · have z := hp.filterMap (fun i => L[i]?)
    rw [range_get] at z
    exact z

/-- the table laid anew -/
theorem relayK {o : Obj} (ho : s.heap.get? a = some o) (hex : o.ExactSet) (hd : o.data = .set es ep t) (hr : es.toList = rowsK P w L) (hsz : t.place.size = es.size) (hdm : t.dummies = #[]) (hfl : es.size ≤ t.mask)
    (uni : (keysK L).Nodup) (mem : ∀ p, p ∈ L → TupK P w s.heap p.2 p.1) (low : L.length < 64) {wn M : Nat}
    (hw : SetTable.sizeAbove wn - 1 = M) (hM : MaskOk M) (hw2 : SetTable.sizeAbove wn ≤ 128) (hn : L.length * 5 < M * 3) {Q : Unit → Shared → Prop}
    (q : ∀ h' L' es' ep' t', Heap.SameBut a s.heap h' → SetK P w h' a L' es' ep' t' → L'.Perm L → Q () { s with heap := h' }) : wpAny (model P w) A (setRelay a wn) Q E s := by
  have hsl := rowsK_len hr
  obtain ⟨t', ord, e, hp, T, em, _, _, _⟩ := relaid_ok t (hs := es.map (·.1)) (wanted := wn) hw hM (by rw [Array.size_map, hsl]; omega)
  rw [Array.size_map, hsl] at hp
  obtain ⟨L2, r1, r2, r3⟩ := rows_order L es ord hr hp
  have hs2 : (ord.filterMap (es[·]?)).size = L.length := by rw [rowsK_len r1, r2.length_eq]
  rw [← r3] at T
  rw [setRelay_eq]
  apply wpAny_bind (wpAny_setState_of ho hd (fits_of (m := 0) hdm hsz hfl) _)
  dsimp only
  apply wp_if_neg (by rw [sizeLine_eq]; omega)
  try apply wpAny_bind (wpAny_pure _)
  rw [e]
  dsimp only
  apply wpAny_bind
  apply wp_if_neg (by rw [hs2, hsl]; simp)
  try apply wpAny_bind (wpAny_pure _)
  apply wpAny_pure
  dsimp only
  apply wpAny_storeSet_of ho hd _ (by rw [hs2, sizeLine_eq]; omega)
  have sb : Heap.SameBut a s.heap (s.heap.update a (Obj.putSet (ord.filterMap (es[·]?)) t')) := Heap.SameBut.update ..
  apply q _ L2 (ord.filterMap (es[·]?)) (ep + 1) t' sb _ r2
  exact ⟨⟨_, store_at ho hd, ⟨hex.1, hex.2.1, hex.2.2⟩, rfl⟩, r1, T, (r2.map Prod.snd).nodup_iff.mpr uni, fun p hpm => TupK.but (mem p (r2.mem_iff.mp hpm)) ho hd sb, by rw [r2.length_eq, em]; exact hn, by rw [r2.length_eq]; exact low⟩

/-- a member more -/
theorem addK (R : SetK P w s.heap a L es ep t) {x : Addr} {k : List Key} (hx : TupK P w s.heap k x) (hu : A.units < cLine) (few : L.length + 1 < 64) {Q : Bool → Shared → Prop}
    (q : ∀ b h' L' es' ep' t', Heap.SameBut a s.heap h' → SetK P w h' a L' es' ep' t' → (k ∈ keysK L → L' = L) → (k ∉ keysK L → L'.Perm ((x, k) :: L)) → Q b { s with heap := h' }) :
    wpAny (model P w) A (setAddHashed a (.ref x) (hsK P w k)) Q E s := by
  obtain ⟨o, ho, hex, hd⟩ := R.obj
  have hsl := rowsK_len R.rws
  have rm := R.rom
  unfold setAddHashed
  apply wpAny_holding
  rw [show (100000 : Nat) = 99999 + 1 from rfl, setAddHashedIn_succ]
  apply wpAny_bind (wpAny_setState_of ho hd R.fit _)
  dsimp only
  apply wp_if_neg (by simp [byScan, Value.scannable])
  try apply wpAny_bind (wpAny_pure _)
  apply wpAny_bind (searchK0 R hx hu _ _)
  · intro hm
    dsimp only
    exact wpAny_pure (q false s.heap L es ep t (Heap.SameBut.refl a s.heap) R (fun _ => rfl) fun z => absurd hm z)
  intro K hm hK hb
  dsimp only
  apply wpAny_bind (wpAny_setState_of ho hd R.fit _)
  dsimp only
  obtain ⟨q1, q2, q3, q4, _, _, _, _, q9⟩ := R.tbl.put hK hb
  generalize hpt : t.put (way t.mask (hsK P w k) K) = pt at q1 q3 q4 q9 ⊢
  obtain ⟨t1, p⟩ := pt
  dsimp only at q1 q3 q4 q9 ⊢
  subst q1
  generalize hpp : SetTable.below t.place (way t.mask (hsK P w k) K) = p at *
  have ins : (SetTable.insertAt es p (hsK P w k, Value.ref x)).toList = rowsK P w (L.take p ++ (x, k) :: L.drop p) := by
    rw [SetTable.toList_insertAt, R.rws]
    simp [rowsK]
  have pm := ins_perm L p (x, k)
  have len1 : (L.take p ++ (x, k) :: L.drop p).length = L.length + 1 := pm.length_eq
  have T1 : TabOk t1 ((L.take p ++ (x, k) :: L.drop p).map fun p => hsK P w p.2) := by
    have e : (L.take p ++ (x, k) :: L.drop p).map (fun p => hsK P w p.2) = (L.map fun p => hsK P w p.2).take p ++ hsK P w k :: (L.map fun p => hsK P w p.2).drop p := by simp
    rw [e]
    exact q3
  have uni1 : (keysK (L.take p ++ (x, k) :: L.drop p)).Nodup := (pm.map Prod.snd).nodup_iff.mpr (List.nodup_cons.mpr ⟨hm, R.uni⟩)
  have sz1 := rowsK_len ins
  rw [len1] at sz1
  generalize SetTable.insertAt es p (hsK P w k, Value.ref x) = es1 at *
  generalize L.take p ++ (x, k) :: L.drop p = L1 at *
  have main : ∀ t2 : SetTable, t2.place = t1.place → t2.dummies = t1.dummies → t2.mask = t1.mask → t2.fill = t1.fill →
      wpAny (model P w) A (do
        storeSet a es1 t2
        if !false && t2.tooFull then setRelay a (SetTable.grown (es.size + 1))
        return true) Q E s := by
    intro t2 f1 f2 f3 f4
    have T2 : TabOk t2 (L1.map fun p => hsK P w p.2) := by
      obtain ⟨a1, a2, a3, a4, a5, a6⟩ := T1
      exact ⟨by rw [f1]; exact a1, by rw [f2]; exact a2, by rw [f1]; exact a3, by rw [f3]; exact a4, by rw [f1, f3]; exact a5, by rw [f1, f3]; exact a6⟩
    apply wpAny_bind (wpAny_storeSet_of ho hd _ (by rw [sz1, sizeLine_eq]; omega))
    have sb : Heap.SameBut a s.heap (s.heap.update a (Obj.putSet es1 t2)) := Heap.SameBut.update ..
    have ho1 := store_at (es' := es1) (t' := t2) ho hd
    generalize s.heap.update a (Obj.putSet es1 t2) = h1 at sb ho1 ⊢
    have mem1 : ∀ p, p ∈ L1 → TupK P w h1 p.2 p.1 := fun p hp => by
      rcases List.mem_cons.mp (pm.mem_iff.mp hp) with e | hp
      · rw [e]; exact TupK.but hx ho hd sb
      · exact TupK.but (R.mem p hp) ho hd sb
    have fl : t2.tooFull = decide (t2.fill * 5 ≥ t2.mask * 3) := rfl
    rw [f4, q9, List.length_map] at fl
    by_cases hf : t2.tooFull = true
    · rw [hf]
      rw [hf] at fl
      have full : (L.length + 1) * 5 ≥ t2.mask * 3 := of_decide_eq_true fl.symm
      have two : (t2.mask = 7 ∧ L.length = 4) ∨ (t2.mask = 31 ∧ L.length = 18) := by
        rw [f3, q4] at full ⊢
        rcases R.tbl.mok with e | e | e <;> rw [e] at full rm ⊢ <;> omega
      have go : ∀ M, SetTable.sizeAbove (SetTable.grown (L.length + 1)) - 1 = M → MaskOk M → SetTable.sizeAbove (SetTable.grown (L.length + 1)) ≤ 128 → (L.length + 1) * 5 < M * 3 →
          wpAny (model P w) A (setRelay a (SetTable.grown (L.length + 1))) (fun _ s' => wpAny (model P w) A (pure true) Q E s') E { s with heap := h1 } := by
        intro M a1 a2 a3 a4
        apply relayK (s := { s with heap := h1 }) ho1 ⟨hex.1, hex.2.1, hex.2.2⟩ rfl ins (by rw [T2.sz, List.length_map, len1, sz1]) T2.dm (by rw [sz1]; rcases two with ⟨e, e2⟩ | ⟨e, e2⟩ <;> omega) uni1 mem1 (by rw [len1]; exact few) a1 a2 a3 (by rw [len1]; exact a4)
        intro h2 L2 es2 ep2 t3 sb2 R2 pm2
        exact wpAny_pure (q true h2 L2 es2 ep2 t3 (sb.trans sb2) R2 (fun z => absurd z hm) fun _ => pm2.trans pm)
      simp only [Bool.not_false, Bool.and_self, if_true]
      apply wpAny_bind
      rw [hsl]
      rcases two with ⟨_, e2⟩ | ⟨_, e2⟩
      · exact go 31 (by rw [e2, size_20]) (.inr (.inl rfl)) (by rw [e2, size_20]; decide) (by omega)
      · exact go 127 (by rw [e2, size_76]) (.inr (.inr rfl)) (by rw [e2, size_76]; decide) (by omega)
    · have hf' : t2.tooFull = false := by simpa using hf
      rw [hf']
      rw [hf'] at fl
      have nf : ¬ (L.length + 1) * 5 ≥ t2.mask * 3 := of_decide_eq_false fl.symm
      simp only [Bool.and_false, Bool.false_eq_true, if_false]
      try apply wpAny_bind (wpAny_pure _)
      exact wpAny_pure (q true h1 L1 es1 (ep + 1) t2 sb ⟨⟨_, ho1, ⟨hex.1, hex.2.1, hex.2.2⟩, rfl⟩, ins, T2, uni1, mem1, by rw [len1]; omega, by rw [len1]; exact few⟩ (fun z => absurd z hm) fun _ => pm)
  by_cases hp : t1.plain = true
  · first
      | apply wp_if_pos hp (wpAny_bind (byValue_tupK hx _))
      | (apply wpAny_bind; apply wp_if_pos hp (byValue_tupK hx _))
    intro c
    cases c
    · exact main { t1 with plain := false } rfl rfl rfl rfl
    · exact main t1 rfl rfl rfl rfl
  · first
      | apply wp_if_neg hp (wpAny_bind (wpAny_pure _))
      | (apply wpAny_bind; apply wp_if_neg hp (wpAny_pure _))
    exact main t1 rfl rfl rfl rfl

/-- what the set has got from the first i items -/
structure Had (ks : List Row) (i : Nat) (L : List Row) : Prop where
  sub : ∀ p, p ∈ L → p ∈ ks.take i
  all : ∀ p, p ∈ ks.take i → p.2 ∈ keysK L
  len : L.length ≤ i
theorem Had.nil (ks : List Row) : Had ks 0 [] := ⟨fun _ h => (nomatch h), fun _ h => (by simp at h), Nat.le_refl _⟩
theorem take_one {α : Type} {l : List α} {i : Nat} {x : α} (h : l[i]? = some x) : l.take (i + 1) = l.take i ++ [x] := by
  simp [List.take_succ, h]
theorem Had.next {ks L L' : List Row} {i : Nat} {x : Row} (g : Had ks i L) (h : ks[i]? = some x) (c1 : x.2 ∈ keysK L → L' = L) (c2 : x.2 ∉ keysK L → L'.Perm (x :: L)) : Had ks (i + 1) L' := by
  by_cases c : x.2 ∈ keysK L
  · rw [c1 c]
    refine ⟨fun p hp => ?_, fun p hp => ?_, Nat.le_succ_of_le g.len⟩
    · rw [take_one h]
      exact List.mem_append_left _ (g.sub p hp)
    · rw [take_one h, List.mem_append, List.mem_singleton] at hp
      rcases hp with z | z
      · exact g.all p z
      · rw [z]; exact c
  · have pm := c2 c
    refine ⟨fun p hp => ?_, fun p hp => ?_, by rw [pm.length_eq]; exact Nat.succ_le_succ g.len⟩
    · rw [take_one h]
      rcases List.mem_cons.mp (pm.mem_iff.mp hp) with e | z
      · exact List.mem_append_right _ (by rw [e]; exact List.mem_singleton.mpr rfl)
      · exact List.mem_append_left _ (g.sub p z)
    · rw [keysK, (pm.map Prod.snd).mem_iff, List.map_cons]
      rw [take_one h, List.mem_append, List.mem_singleton] at hp
      rcases hp with z | z
      · exact List.mem_cons_of_mem _ (g.all p z)
      · rw [z]; exact List.mem_cons_self
theorem SetK.moved {h h' : Heap} (R : SetK P w h a L es ep t) (ha : ∀ o, h.get? a = some o → h'.get? a = some o) (ht : ∀ p, p ∈ L → TupK P w h' p.2 p.1) : SetK P w h' a L es ep t := by
  obtain ⟨o, ho, r⟩ := R.obj
  exact ⟨⟨o, ha o ho, r⟩, R.rws, R.tbl, R.uni, ht, R.rom, R.low⟩
/-- a new set's object -/
def set0 (b : Bool) : Obj := { cls := .type "set", dict := none, data := .set #[] 0 (.fresh 0 0 b) }
theorem setK_new {h : Heap} {b : Bool} (ho : h.get? a = some (set0 b)) : SetK P w h a [] #[] 0 (.fresh 0 0 b) :=
  ⟨⟨_, ho, ⟨rfl, rfl, rfl⟩, rfl⟩, rfl, ⟨List.Pairwise.nil, rfl, rfl, .inl rfl, fun _ hx => (nomatch hx), fun i z j hi => (by simp at hi)⟩, List.nodup_nil, fun _ hp => (nomatch hp), (by decide : 0 * 5 < 7 * 3), (by decide : 0 < 64)⟩

/-- the loop of set.update over a list of tuples -/
theorem loopK {I : Addr} {fp wr : List Addr} {G : Array GenState → Array GenState → Prop} {n : Nat} {Pv : Nat → Value → Prop} {St : Nat → Shared → Prop} {R : Result → Shared → Prop}
    (W : WalksS P w A.in1 I fp wr G n Pv St) (S : Addr) (nS : S ∉ fp) (ks : List Row) (hn : n = ks.length) (few : ks.length < 64) (val : ∀ i v, Pv i v → ∃ p, ks[i]? = some p ∧ v = .ref p.1)
    (g0 : Heap) (hk : ∀ p, p ∈ ks → TupK P w g0 p.2 p.1) (n0 : g0.get? S = none) (w0 : ∀ b, b ∈ wr → g0.get? b = none) (hu : A.in1.units < cLine) :
    ∀ (m i : Nat) (s : Shared), n - i = m → i ≤ n → St i s → (∀ b o, g0.get? b = some o → s.heap.get? b = some o) → (∃ L es ep t, SetK P w s.heap S L es ep t ∧ Had ks i L) →
      (∀ s' L es ep t, Moved (S :: wr) G s s' → SetK P w s'.heap S L es ep t → Had ks n L → (∀ b o, g0.get? b = some o → s'.heap.get? b = some o) → R (.ok (.ret .none)) s') →
      codeAny (model P w) A (.builtin "set.update.loop" ⟨[.ref S, .ref I], []⟩) R s := by
  have sw : S ∉ wr := fun h => nS (W.sub _ h)
  have up : ∀ b, b ∈ wr → b ∈ S :: wr := fun b hb => List.mem_cons_of_mem _ hb
  have kp : ∀ {s s' : Shared}, Moved wr G s s' → (∀ b o, g0.get? b = some o → s.heap.get? b = some o) → ∀ b o, g0.get? b = some o → s'.heap.get? b = some o := fun hm h b o e =>
    hm.heap b o (fun hb => by rw [w0 b hb] at e; cases e) (h b o e)
  intro m
  induction m with
  | zero =>
    intro i s hm hi hst hkp ⟨L, es, ep, t, hS, g⟩ hR
    obtain rfl : i = n := by omega
    apply codeAny_builtin F.entry_set_update_loop
    rw [Around.under_plainId F.plain_set_update_loop _]
    show wpAny _ A.in1 (pyNext (.ref I) >>= _) _ _ s
    apply wpAny_bind (W.done s _ _ hst _)
    intro s' mv
    show wpAny _ A.in1 (ret Value.none) _ _ s'
    have k2 := kp mv hkp
    exact wpAny_pure (hR s' L es ep t (mv.mono up) (hS.moved (fun o e => mv.heap S o sw e) fun p hp => TupK.kept (hk p (List.mem_of_mem_take (g.sub p hp))) k2) g k2)
  | succ m ih =>
    intro i s hm hi hst hkp ⟨L, es, ep, t, hS, g⟩ hR
    have lt : i < n := by omega
    apply codeAny_builtin F.entry_set_update_loop
    rw [Around.under_plainId F.plain_set_update_loop _]
    show wpAny _ A.in1 (pyNext (.ref I) >>= _) _ _ s
    apply wpAny_bind (W.item i s _ _ lt hst _)
    intro v s' hP hst' mv
    obtain ⟨p, hp, rfl⟩ := val i v hP
    have k2 := kp mv hkp
    have hS' : SetK P w s'.heap S L es ep t := hS.moved (fun o e => mv.heap S o sw e) fun q hq => TupK.kept (hk q (List.mem_of_mem_take (g.sub q hq))) k2
    have hx : TupK P w s'.heap p.2 p.1 := TupK.kept (hk p (List.mem_of_getElem? hp)) k2
    show wpAny _ A.in1 (holding [Value.ref p.1] (setAdd S (.ref p.1)) >>= _) _ _ s'
    apply wpAny_bind (wpAny_holding _)
    unfold setAdd
    apply wpAny_holding
    apply wpAny_bind (wpAny_pyHash_tuple hu hx _)
    apply addK (s := { s' with toks := s'.toks + (p.2.length + 1) }) hS' hx hu (by have := g.len; omega)
    intro b h' L' es' ep' t' sb hS2 c1 c2
    have k3 : ∀ b o, g0.get? b = some o → h'.get? b = some o := fun b o e => (sb.2 b (fun z => by rw [z, n0] at e; cases e)).trans (k2 b o e)
    have fr := W.frame (i + 1) s' h' (s'.toks + (p.2.length + 1)) hst' (Nat.le_add_right _ _) fun b hb o e => by
      rw [sb.2 b (fun h : b = S => nS (by rw [← h]; exact hb))]; exact e
    apply wpAny_pure
    refine ⟨plainId_quiet F.plain_set_update_loop _, ih (i + 1) _ (by omega) lt fr k3 ⟨L', es', ep', t', hS2, g.next hp c1 c2⟩ fun s'' L2 es2 ep2 t2 mv2 hS3 g3 k4 => ?_⟩
    refine hR s'' L2 es2 ep2 t2 (Moved.trans W.gtrans ((mv.mono up).then_heap (Nat.le_add_right _ _) fun b o hb e => ?_) mv2) hS3 g3 k4
    rw [sb.2 b fun h => hb (by rw [h]; exact List.mem_cons_self)]
    exact e

/-- what the loop of set(xs) does -/
structure SetLoop (P : Program) (w : World) (A : Around) (s : Shared) (l : Addr) (Post : Heap → Prop) : Prop where
  run : ∀ (led : Bool) (R : Result → Shared → Prop), (∀ h' tk, Post h' → (∀ b o, s.heap.get? b = some o → h'.get? b = some o) → R (.ok (.ret .none)) { s with heap := h', toks := tk }) →
    codeAny (model P w) A.in1.in1 (.builtin "set.update.loop" ⟨[.ref s.heap.objs.size, .ref (s.heap.push (set0 led)).objs.size], []⟩) R
      { s with heap := (s.heap.push (set0 led)).push { cls := .type "list_iterator", data := .fields #[.ref l, .int 0 0] } }
structure SetGoal (s : Shared) (Post : Heap → Prop) (Q : Value → Shared → Prop) : Prop where
  out : ∀ (h' : Heap) (tk : Nat), Post h' → (∀ b o, s.heap.get? b = some o → h'.get? b = some o) → Q (.ref s.heap.objs.size) { s with heap := h', toks := tk }
/-- set(xs), by what its loop does -/
theorem call_set_gen {l : Addr} {its : Array Value} (Post : Heap → Prop) {Q : Value → Shared → Prop} (hl : s.heap.IsList l its) (loop : SetLoop P w A s l Post) (q : SetGoal s Post Q) :
    wpAny (model P w) A (call (.type "set") [.ref l]) Q E s := by
  obtain ⟨c, tl, hmro⟩ := F.called_set.mro
  have y1 := F.called_set.made
  have y2 := F.called_set.sub
  apply wpAny_call (codeAny_of_tree _)
  show wpAny _ _ (callAny (.type "set") _) _ _ _
  apply wpAny_pure
  refine ⟨Code.quiet_builtin _ (by decide +kernel), codeAny_builtin F.entry_type_call ?_⟩
  rw [Around.under_plain (weight_type_call_type "set" [.ref l] []) rfl]
  have y3 := F.called_set.notType
  have y4 := F.called_set.canCreate
  have y5 := F.typeCall_set_1 (.ref l)
  repeat (any_goals (first | assumption | wp_step))
  generalize hb : (!w.params.followText "set-order") = led at *
  have z0 : ∀ b, s.heap.objs.size ≤ b → s.heap.get? b = none := fun b hb => by
    cases e : s.heap.get? b with
    | none => rfl
    | some o => exact absurd (Heap.lt_size e) (Nat.not_lt.mpr hb)
  have n1 : (s.heap.push (set0 led)).objs.size = s.heap.objs.size + 1 := Heap.size_push ..
  have g1 : (s.heap.push (set0 led)).get? s.heap.objs.size = some (set0 led) := Heap.get?_push_size _ rfl
  apply codeAny_mono (code_set_led1 (.ref l) (E := E) (Q₁ := fun obj s₁ => obj = .ref s.heap.objs.size ∧ s₁ = { s with heap := s.heap.push (set0 led) }) ⟨rfl, by rw [hb]; rfl⟩)
  intro r s₁ hr
  rcases r with e | fl
  · exact hr
  cases fl with
  | next => exact hr.elim
  | brk => exact hr.elim
  | cont => exact hr.elim
  | ret obj =>
  obtain ⟨rfl, rfl⟩ := hr
  have ty : Shared.TypeIs { s with heap := s.heap.push (set0 led) } (.ref s.heap.objs.size) "set" := ⟨_, g1, rfl⟩
  have x1 := F.called_set.init.lookup
  have x2 := F.called_set.init.bind (.ref s.heap.objs.size)
  repeat (any_goals (first | assumption | wp_step))
  apply codeAny_mono (codeAny_call_builtin (R := wants (fun r s₂ => r = .none ∧ ∃ h' tk, s₂ = { s with heap := h', toks := tk } ∧ Post h' ∧
    (∀ b o, s.heap.get? b = some o → h'.get? b = some o)) E) F.called_set.init.plain F.entry_set_init (check_set_init_1 ty _))
  · intro r₂ s₂ hr₂
    rcases r₂ with e | fl₂
    · exact hr₂
    cases fl₂ with
    | next => exact hr₂.elim
    | brk => exact hr₂.elim
    | cont => exact hr₂.elim
    | ret r =>
      obtain ⟨rfl, h', tk, rfl, g, k⟩ := hr₂
      repeat (any_goals (first | assumption | wp_step))
      exact q.out _ _ g k
  obtain ⟨⟨oc, od, odt, osl⟩, hol, hcl, nl, hdl⟩ := hl
  dsimp only at hcl hdl
  subst hcl hdl
  have ls : l < s.heap.objs.size := Heap.lt_size hol
  have g2 := Heap.get?_push_of_some (set0 led) hol
  have w1 := F.sub_list_set
  have w2 := F.sub_list_frozenset
  have w3 : (Value.type "list" == Value.type "dict") = false := by decide
  have hl1 : (s.heap.push (set0 led)).IsList l its := ⟨_, g2, rfl, nl, rfl⟩
  unfold Builtin.«set.__init__» noKeywords Builtin.Frozenset.updateFrom
  generalize hPI : pyIter = PI
  clear q y1 y2 y3 y4 y5 x1 x2 ty g1 z0 n1 hb
  wp_walk
  subst hPI
  apply wpAny_pyIter_list hl1
  apply wpAny_bind (wpAny_runValue _)
  refine loop.run led _ fun h' tk g k => ?_
  show wpAny _ _ _ _ _ _
  apply wpAny_pure
  show wpAny _ _ (ret Value.none) _ _ _
  exact wpAny_pure ⟨rfl, h', tk, rfl, g, k⟩
theorem no_above {h : Heap} {b : Addr} (hb : h.objs.size ≤ b) : h.get? b = none := by
  cases e : h.get? b with
  | none => rfl
  | some o => exact absurd (Heap.lt_size e) (Nat.not_lt.mpr hb)
/-- set(xs), xs a list of such tuples -/
theorem call_setK {l : Addr} {its : Array Value} (ks : List Row) {Q : Value → Shared → Prop} (hh : A.handled = none) (hl : s.heap.IsList l its) (hit : its.toList = ks.map fun p => Value.ref p.1)
    (hk : ∀ p, p ∈ ks → TupK P w s.heap p.2 p.1) (few : ks.length < 64) (hu : A.units + 3 < cLine)
    (q : ∀ (h' : Heap) (tk : Nat) L es ep t, SetK P w h' s.heap.objs.size L es ep t → Had ks ks.length L → (∀ b o, s.heap.get? b = some o → h'.get? b = some o) → Q (.ref s.heap.objs.size) { s with heap := h', toks := tk }) :
    wpAny (model P w) A (call (.type "set") [.ref l]) Q E s := by
  have isz : its.size = ks.length := by
    have z : its.toList.length = (ks.map fun p => Value.ref p.1).length := by rw [hit]
    simpa using z
  refine call_set_gen (fun h' => ∃ L es ep t, SetK P w h' s.heap.objs.size L es ep t ∧ Had ks ks.length L) hl ⟨?_⟩ ⟨fun h' tk ⟨L, es, ep, t, hS, g⟩ k => q h' tk L es ep t hS g k⟩
  intro led R hR
  have n1 : (s.heap.push (set0 led)).objs.size = s.heap.objs.size + 1 := Heap.size_push ..
  have g1 : (s.heap.push (set0 led)).get? s.heap.objs.size = some (set0 led) := Heap.get?_push_size _ rfl
  have hl1 := hl.push (set0 led)
  have ls : l < s.heap.objs.size := by
    obtain ⟨o, ho, _⟩ := hl
    exact Heap.lt_size ho
  have h3 : A.in1.in1.in1.handled = none := by simp [hh]
  have nI : l ≠ (s.heap.push (set0 led)).objs.size := by
    rw [n1]
    exact Nat.ne_of_lt (Nat.lt_succ_of_lt ls)
  have val : ∀ (i : Nat) (v : Value), its[i]? = some v → ∃ p, ks[i]? = some p ∧ v = .ref p.1 := fun i v hv => by
    rw [← Array.getElem?_toList, hit, List.getElem?_map] at hv
    obtain ⟨p, e1, e2⟩ := Option.map_eq_some_iff.mp hv
    exact ⟨p, e1, e2.symm⟩
  refine loopK ((Walks.list h3 _ l nI its).toS) s.heap.objs.size ?n1 ks isz few val s.heap hk (no_above (Nat.le_refl _)) ?n2 hu (its.size - 0) 0 _ (by omega) (Nat.zero_le _)
    ⟨⟨_, Heap.get?_push_size _ rfl, rfl, rfl⟩, (hl1.push _)⟩ (fun b o e => Heap.get?_push_of_some _ (Heap.get?_push_of_some _ e)) ⟨[], #[], 0, _, setK_new (Heap.get?_push_of_some _ g1), Had.nil ks⟩ ?n3
  case n1 =>
    rw [n1]
    simp only [List.mem_cons, List.not_mem_nil, or_false, not_or]
    exact ⟨Nat.ne_of_lt (Nat.lt_succ_self _), Nat.ne_of_gt ls⟩
  case n2 =>
    intro b hb
    rw [List.mem_singleton.mp hb, n1]
    exact no_above (Nat.le_succ _)
  case n3 =>
    intro s' L es ep t mv hS g k
    obtain ⟨h', g2, d', tk', os'⟩ := s'
    obtain rfl : g2 = s.gens := mv.gens
    obtain rfl : d' = s.drawn := mv.drawn
    obtain rfl : os' = s.os := mv.os
    rw [isz] at g
    exact hR h' tk' ⟨L, es, ep, t, hS, g⟩ k
end

/-! ### len(set(xs)) as a rule of the layer -/
/-- how many different ones -/
def many {α : Type} [DecidableEq α] (l : List α) : Nat := l.eraseDups.length
section
variable {X : Cx}
theorem TupK.of {pins : List (Addr × Obj)} {σ : L2.St} {H : Hp} {s : Shared} (I : Inv X pins σ H s) {a : Addr} {k : List Key} (h : SqT X.K H a (k.map kV)) : TupK X.prog X.w s.heap k a := by
  obtain ⟨its, rv, ⟨o, h1, h2, n, h3⟩, z⟩ := I.tuple h
  refine ⟨o, its.toArray, n, h1, h2, h3, ?_⟩
  rw [List.toList_toArray]
  clear h1 h2 h3 h z
  induction k generalizing its with
  | nil =>
    cases rv
    exact .nil
  | cons x k ih =>
    cases rv with
    | cons r t =>
      refine .cons ?_ (ih _ t)
      cases x with
      | inl i =>
        obtain ⟨t, rfl⟩ := r
        exact keyIs_int i t
      | inr z =>
        obtain ⟨t, rfl⟩ := r
        exact keyIs_str z t
def tLenSetK (K : PySem.W.Frag) (ta : TE) : TE := fun σ H Q => ta σ H fun x H1 => ∃ (l : Addr) (ks : List Row), x = V.ref l ∧ SqL K H1 l (ks.map fun p => V.ref p.1) ∧ (∀ p, p ∈ ks → SqT K H1 p.1 (p.2.map kV)) ∧ ks.length < 64 ∧
  ∀ n : Nat, (∀ D : List (List Key), D.Nodup → (∀ k, k ∈ D ↔ k ∈ keysK ks) → D.length = n) → Q (.int n) H1
theorem nodup_same {α : Type} : ∀ {l m : List α}, l.Nodup → m.Nodup → (∀ x, x ∈ l ↔ x ∈ m) → l.length = m.length := fun h1 h2 h =>
  ((List.perm_ext_iff_of_nodup h1 h2).mpr h).length_eq
theorem pe_lenSetK {a : Expr} {ta : TE} {p p2 q pos : Pos} (hc : X.calm = true) (hg : Gl X "len") (hm : X.mg "len" = none) (hg2 : Gl X "set") (hm2 : X.mg "set" = none) (ha : PE X a ta) (hu : X.A.units + 64 < cLine)
    (na : starEach [a] X.env = (false, eval a X.env) :: starEach [] X.env := by rfl) : PE X (.Call (.Name "len" p) [.Call (.Name "set" p2) [a] [] q] [] pos) (tLenSetK X.K ta) := by
  refine ⟨fun pins s σ H Q I h => ?_⟩
  apply Call_ (ld_blt I hg hm PySem.boot_len _)
  apply PyProof.Rows.callWith_builtin1 (PyProof.Rows.args_cons _ rfl) rfl rfl
  apply Call_ (ld_blt I hg2 hm2 PyProof.Rows.boot_set _)
  apply PyProof.Rows.callWith_type1 (PyProof.Rows.args_cons (thn (ha.run pins s σ H _ I h) _) na) na rfl
  rintro v s1 ⟨x, H1, I1, r1, l, ks, rfl, hl, hk, few, q1⟩
  apply PyProof.Rows.args_nil
  cases r1
  obtain ⟨its, rv, pl, hz⟩ := I1.list hl
  have e1 : its = ks.map fun p => Value.ref p.1 := by
    clear hl pl hz hk few q1 I1
    induction ks generalizing its with
    | nil =>
      cases rv
      rfl
    | cons p ks ih =>
      cases rv with
      | cons r t =>
        cases r
        rw [List.map_cons, ih _ t]
  apply call_setK ks (I1.ok.hd hc) pl.isList (by rw [List.toList_toArray, e1]) (fun p hp => TupK.of I1 (hk p hp)) few (by omega)
  intro h' tk L es ep t R g k
  apply PyProof.Rows.args_nil
  have I2 : Inv X pins σ H1 { s1 with heap := h', toks := tk } := I1.kept fun b o e => k b o e
  have ln := rowsK_len R.rws
  have hL : L.length = (keysK L).length := by simp [keysK]
  obtain ⟨o, ho, hex, hd⟩ := R.obj
  have fin := q1 L.length fun D h1 h2 => by
    rw [hL]
    refine nodup_same h1 R.uni fun x => ?_
    rw [h2, keysK, List.mem_map]
    constructor
    · rintro ⟨p, hp, rfl⟩
      exact g.all p (by rw [List.take_length]; exact hp)
    · intro hx
      obtain ⟨p, hp, rfl⟩ := List.mem_map.mp hx
      exact ⟨p, by have := g.sub p hp; rwa [List.take_length] at this, rfl⟩
  have lo := R.low
  exact call_len_set ho hex hd (SetK.fit (s := { s1 with heap := h', toks := tk }) R) (by rw [ln]; omega) ⟨.int L.length, H1, I2.tok _, ⟨_, by rw [ln]⟩, fin⟩
end
end Kx
/-! len(set(xs)), xs a list of texts. -/
namespace Kx
open PySem PySem.Spec PyProof.Rows L2
/-- how many different ones stand in a list -/
def cnt {α : Type} [DecidableEq α] : List α → Nat
  | [] => 0
  | x :: l => if x ∈ l then cnt l else cnt l + 1
section
variable {P : Program} {w : World} {A : Around} {E : Value → Shared → Prop} {s : Shared}
def inS (xs : List Str) (k : Str) : Bool := decide (k ∈ xs)
theorem cnt_rev_append {α : Type} [DecidableEq α] : ∀ (l : List α) (x : α), cnt (l ++ [x]) = if x ∈ l then cnt l else cnt l + 1
  | [], x => by simp [cnt]
  | y :: l, x => by
    have ih := cnt_rev_append l x
    by_cases h3 : y = x
    · subst h3
      by_cases h1 : y ∈ l <;> simp_all [cnt]
    · have h4 : ¬ x = y := fun e => h3 e.symm
      by_cases h1 : x ∈ l <;> by_cases h2 : y ∈ l <;> simp_all [cnt]
theorem cnt_le {α : Type} [DecidableEq α] : ∀ l : List α, cnt l ≤ l.length
  | [] => Nat.le_refl _
  | x :: l => by
    have := cnt_le l
    unfold cnt
    split <;> simp <;> omega
theorem loopS {I : Addr} {fp wr : List Addr} {G : Array GenState → Array GenState → Prop} {n : Nat} {Pv : Nat → Value → Prop} {St : Nat → Shared → Prop} {R : Result → Shared → Prop}
    (W : WalksS P w A.in1 I fp wr G n Pv St) (S : Addr) (nS : S ∉ fp) (xs : List Str) (hn : n = xs.length) (few : xs.length < 4000) (val : ∀ i v, Pv i v → ∃ x t, xs[i]? = some x ∧ v = .str x t)
    (g0 : Heap) (n0 : g0.get? S = none) (w0 : ∀ b, b ∈ wr → g0.get? b = none) :
    ∀ (m i : Nat) (s : Shared), n - i = m → i ≤ n → St i s → (∀ b o, g0.get? b = some o → s.heap.get? b = some o) → s.heap.SetOf (strKind P w) S (inS (xs.take i)) (cnt (xs.take i)) →
      (∀ s', Moved (S :: wr) G s s' → s'.heap.SetOf (strKind P w) S (inS xs) (cnt xs) → (∀ b o, g0.get? b = some o → s'.heap.get? b = some o) → R (.ok (.ret .none)) s') →
      codeAny (model P w) A (.builtin "set.update.loop" ⟨[.ref S, .ref I], []⟩) R s := by
  have sw : S ∉ wr := fun h => nS (W.sub _ h)
  have up : ∀ b, b ∈ wr → b ∈ S :: wr := fun b hb => List.mem_cons_of_mem _ hb
  have kp : ∀ {s s' : Shared}, Moved wr G s s' → (∀ b o, g0.get? b = some o → s.heap.get? b = some o) → ∀ b o, g0.get? b = some o → s'.heap.get? b = some o := fun hm h b o e =>
    hm.heap b o (fun hb => by rw [w0 b hb] at e; cases e) (h b o e)
  have stay : ∀ {h h' : Heap} {f : Str → Bool} {c : Nat}, h.SetOf (strKind P w) S f c → (∀ o, h.get? S = some o → h'.get? S = some o) → h'.SetOf (strKind P w) S f c := fun ⟨o, es, ep, tb, ho, r⟩ k => ⟨o, es, ep, tb, k o ho, r⟩
  intro m
  induction m with
  | zero =>
    intro i s hm hi hst hkp hS hR
    obtain rfl : i = n := by omega
    apply codeAny_builtin F.entry_set_update_loop
    rw [Around.under_plainId F.plain_set_update_loop _]
    show wpAny _ A.in1 (pyNext (.ref I) >>= _) _ _ s
    apply wpAny_bind (W.done s _ _ hst _)
    intro s' mv
    show wpAny _ A.in1 (ret Value.none) _ _ s'
    rw [hn, List.take_length] at hS
    exact wpAny_pure (hR s' (mv.mono up) (stay hS fun o e => mv.heap S o sw e) (kp mv hkp))
  | succ m ih =>
    intro i s hm hi hst hkp hS hR
    have lt : i < n := by omega
    apply codeAny_builtin F.entry_set_update_loop
    rw [Around.under_plainId F.plain_set_update_loop _]
    show wpAny _ A.in1 (pyNext (.ref I) >>= _) _ _ s
    apply wpAny_bind (W.item i s _ _ lt hst _)
    intro v s' hP hst' mv
    obtain ⟨x, t, hx, rfl⟩ := val i v hP
    have k2 := kp mv hkp
    have hS' := stay hS fun o e => mv.heap S o sw e
    have room : cnt (xs.take i) ≤ i := Nat.le_trans (cnt_le _) (by rw [List.length_take]; omega)
    show wpAny _ A.in1 (holding [Value.str x t] (setAdd S (.str x t)) >>= _) _ _ s'
    apply wpAny_bind (wpAny_holding _)
    unfold setAdd
    apply wpAny_holding
    apply wpAny_bind ((PySem.strKind P w).pyHash (k := x) (strKind_is _ _ _ _) _)
    apply wpAny_setAddHashed_of (knd := PySem.strKind P w) (s := { s' with toks := s'.toks + 1 }) (strKind_is _ _ _ _) rfl hS' (by unfold scanBound; omega)
    intro h' sb hS2
    have k3 : ∀ b o, g0.get? b = some o → h'.get? b = some o := fun b o e => (sb.2 b (fun z => by rw [z, n0] at e; cases e)).trans (k2 b o e)
    have fr := W.frame (i + 1) s' h' (s'.toks + 1) hst' (Nat.le_add_right _ _) fun b hb o e => by
      rw [sb.2 b (fun h : b = S => nS (by rw [← h]; exact hb))]; exact e
    have hS3 : h'.SetOf (PySem.strKind P w) S (inS (xs.take (i + 1))) (cnt (xs.take (i + 1))) := by
      refine SetOf_congr hS2 (fun k => ?_) ?_
      · rw [take_one hx]
        by_cases e : k = x <;> by_cases e2 : k ∈ xs.take i <;> simp [inS, e, e2]
      · rw [take_one hx, cnt_rev_append]
        by_cases e : x ∈ xs.take i <;> simp [inS, e]
    apply wpAny_pure
    refine ⟨plainId_quiet F.plain_set_update_loop _, ih (i + 1) _ (by omega) lt fr k3 hS3 fun s'' mv2 hS4 k4 => ?_⟩
    refine hR s'' (Moved.trans W.gtrans ((mv.mono up).then_heap (Nat.le_add_right _ _) fun b o hb e => ?_) mv2) hS4 k4
    rw [sb.2 b fun h => hb (by rw [h]; exact List.mem_cons_self)]
    exact e
/-- set(xs), xs a list of texts -/
theorem call_setS {l : Addr} {its : Array Value} (xs : List Str) {Q : Value → Shared → Prop} (hh : A.handled = none) (hl : s.heap.IsList l its) (hi : PyProof.Rows.StrsAre its.toList xs) (few : xs.length < 4000)
    (q : ∀ (h' : Heap) (tk : Nat), h'.SetOf (strKind P w) s.heap.objs.size (inS xs) (cnt xs) → (∀ b o, s.heap.get? b = some o → h'.get? b = some o) → Q (.ref s.heap.objs.size) { s with heap := h', toks := tk }) :
    wpAny (model P w) A (call (.type "set") [.ref l]) Q E s := by
  have isz : its.size = xs.length := by rw [← StrsAre.len_eq hi, Array.length_toList]
  refine call_set_gen (fun h' => h'.SetOf (strKind P w) s.heap.objs.size (inS xs) (cnt xs)) hl ⟨?_⟩ ⟨fun h' tk hS k => q h' tk hS k⟩
  intro led R hR
  have n1 : (s.heap.push (set0 led)).objs.size = s.heap.objs.size + 1 := Heap.size_push ..
  have g1 : (s.heap.push (set0 led)).get? s.heap.objs.size = some (set0 led) := Heap.get?_push_size _ rfl
  have hl1 := hl.push (set0 led)
  have ls : l < s.heap.objs.size := by
    obtain ⟨o, ho, _⟩ := hl
    exact Heap.lt_size ho
  have h3 : A.in1.in1.in1.handled = none := by simp [hh]
  have nI : l ≠ (s.heap.push (set0 led)).objs.size := by
    rw [n1]
    exact Nat.ne_of_lt (Nat.lt_succ_of_lt ls)
  have val : ∀ (i : Nat) (v : Value), its[i]? = some v → ∃ x t, xs[i]? = some x ∧ v = .str x t := fun i v hv => by
    rw [← Array.getElem?_toList] at hv
    have lt : i < xs.length := by
      rw [← isz, ← Array.length_toList]
      exact (List.getElem?_eq_some_iff.mp hv).1
    obtain ⟨t, e⟩ := SS.strs_at hi i v hv
    exact ⟨xs[i], t, List.getElem?_eq_getElem lt, by rw [e]; simp [List.getD, List.getElem?_eq_getElem lt]⟩
  refine loopS ((Walks.list h3 _ l nI its).toS) s.heap.objs.size ?n1 xs isz few val s.heap (no_above (Nat.le_refl _)) ?n2 (its.size - 0) 0 _ (by omega) (Nat.zero_le _)
    ⟨⟨_, Heap.get?_push_size _ rfl, rfl, rfl⟩, (hl1.push _)⟩ (fun b o e => Heap.get?_push_of_some _ (Heap.get?_push_of_some _ e)) ?n4 ?n3
  case n1 =>
    rw [n1]
    simp only [List.mem_cons, List.not_mem_nil, or_false, not_or]
    exact ⟨Nat.ne_of_lt (Nat.lt_succ_self _), Nat.ne_of_gt ls⟩
  case n2 =>
    intro b hb
    rw [List.mem_singleton.mp hb, n1]
    exact no_above (Nat.le_succ _)
  case n3 =>
    intro s' mv hS k
    obtain ⟨h', g2, d', tk', os'⟩ := s'
    obtain rfl : g2 = s.gens := mv.gens
    obtain rfl : d' = s.drawn := mv.drawn
    obtain rfl : os' = s.os := mv.os
    exact hR h' tk' hS k
  case n4 =>
    refine ⟨set0 led, #[], 0, .fresh 0 0 led, Heap.get?_push_of_some _ g1, ⟨rfl, rfl, rfl⟩, rfl, ?_⟩
    exact ⟨fun e he => (nomatch he), fun k => ⟨fun h => (by simp [inS] at h), fun ⟨e, he, _⟩ => (nomatch he)⟩, (by decide : 0 < scanBound), rfl, by simp [cnt]⟩
end
section
variable {X : Cx}
theorem sAre_of : ∀ {xs : List Str} {us : List Value}, Vals (xs.map V.str) us → StrsAre us xs
  | [], _, .nil => .nil
  | x :: xs, _, .cons r t => by
    obtain ⟨tk, rfl⟩ := r
    exact .cons x tk (sAre_of t)
def tLenSetT (K : PySem.W.Frag) (ta : TE) : TE := fun σ H Q => ta σ H fun x H1 => ∃ (l : Addr) (xs : List Str), x = V.ref l ∧ SqL K H1 l (xs.map V.str) ∧ xs.length < 4000 ∧ Q (.int (cnt xs : Nat)) H1
theorem pe_lenSetT {a : Expr} {ta : TE} {p p2 q pos : Pos} (hc : X.calm = true) (hg : Gl X "len") (hm : X.mg "len" = none) (hg2 : Gl X "set") (hm2 : X.mg "set" = none) (ha : PE X a ta)
    (na : starEach [a] X.env = (false, eval a X.env) :: starEach [] X.env := by rfl) : PE X (.Call (.Name "len" p) [.Call (.Name "set" p2) [a] [] q] [] pos) (tLenSetT X.K ta) := by
  refine ⟨fun pins s σ H Q I h => ?_⟩
  apply Call_ (ld_blt I hg hm PySem.boot_len _)
  apply PyProof.Rows.callWith_builtin1 (PyProof.Rows.args_cons _ rfl) rfl rfl
  apply Call_ (ld_blt I hg2 hm2 PyProof.Rows.boot_set _)
  apply PyProof.Rows.callWith_type1 (PyProof.Rows.args_cons (thn (ha.run pins s σ H _ I h) _) na) na rfl
  rintro v s1 ⟨x, H1, I1, r1, l, xs, rfl, hl, few, q1⟩
  apply PyProof.Rows.args_nil
  cases r1
  obtain ⟨its, rv, pl, hz⟩ := I1.list hl
  apply call_setS xs (I1.ok.hd hc) pl.isList (by rw [List.toList_toArray]; exact sAre_of rv) few
  intro h' tk ⟨o, es, ep, t, ho, hex, hd, _, _, _, hf, hn⟩ k
  apply PyProof.Rows.args_nil
  have I2 : Inv X pins σ H1 { s1 with heap := h', toks := tk } := I1.kept fun b o e => k b o e
  have le := cnt_le xs
  exact call_len_set ho hex hd hf (by rw [hn]; omega) ⟨.int (cnt xs : Nat), H1, I2.tok _, ⟨_, by rw [hn]⟩, q1⟩
end
end Kx
/-! Further rules of the layer. -/
namespace Kx
open PySem PySem.Spec PyProof.Rows L2
section
variable {X : Cx}
/-- a power of a great number -/
theorem op_powX : OpR X (binaryOp .Pow) (rI (fun i j => 0 ≤ j ∧ (Builtin.Int.intBits i : Int) * j ≤ 2 ^ 27) fun i j => .int (i ^ j.toNat)) :=
  opI fun _ _ _ _ _ _ _ hc q => pow_int hc.1 hc.2 q
/-- one item more than a list's -/
theorem meets_extend_tup (l : Addr) (items : Array Value) (n : Nat) (b : Addr) (items2 : Array Value) (n2 : Nat) (od : Option Addr) (osl : Array (Option Value)) (hs0 : ¬(!items.isEmpty && Builtin.List.listTooLong (items.size + items2.size)) = true) (hs1 : items.size ≤ sizeLine) (hs2 : items.size + items2.size ≤ sizeLine + 1) :
    Meets (Builtin.«list.extend» ⟨[.ref l, .ref b], []⟩) (fun _ R s => s.heap.get? l = some { cls := .type "list", dict := none, data := .seq items n, slots := #[] } ∧ s.heap.get? b = some { cls := .type "tuple", dict := od, data := .seq items2 n2, slots := osl } ∧
      R (.ok (.ret Value.none)) { s with heap := s.heap.update l (Obj.mapSeq fun x => x ++ items2), toks := s.toks }) :=
  .of_wp fun prog w A R s h => by
    obtain ⟨hp, g, d, tk, os⟩ := s
    obtain ⟨hl, hb, h⟩ := h
    have f1 := AutoSeq1.idx_int
    have f2 := AutoSeq1.sub_tuple_tuple
    have f3 := AutoSeq1.sub_list_list
    have f4 := AutoSeq1.sub_tuple_list
    have f5 := AutoSeq1.sub_list_tuple
    have hz' : (items ++ items2).size ≤ sizeLine + 1 := by
      rw [Array.size_append]
      exact hs2
    wp_walk using (wpAny_updateSeq hl rfl (hz := hs1) (_hz' := hz')), AutoSeq1.wpAny_loadPart' hl, AutoSeq1.wpAny_loadPart' hb
    exact ⟨_, rfl, h⟩
/-- xs.extend(t), t a tuple -/
def rExtT (K : PySem.W.Frag) : V → List V → Hp → VK → Prop := fun x vs H Q => ∃ l b xs zs, x = .ref l ∧ vs = [.ref b] ∧ H l = some (.lst xs) ∧ SqT K H b zs ∧ xs.length + zs.length ≤ sizeLine ∧ Q .non (upd H l (.lst (xs ++ zs)))
theorem mt_extT : MtM X "list.extend" (rExtT X.K) := by
  intro pins s σ H x vs v us Q I rx rv h
  obtain ⟨l, b, xs, zs, rfl, rfl, hH, hB, hz, q⟩ := h
  cases rx
  obtain ⟨u, rfl, ru⟩ := rv.one
  cases ru
  obtain ⟨z, its, n, r, hl, e⟩ := I.lstM hH
  obtain ⟨its2, r2, ⟨⟨oc, od, odt, osl⟩, e2, hc, n2, hd⟩, z2⟩ := I.tuple hB
  dsimp only at hc hd
  subst hc hd
  have sz : its.toArray.size + its2.toArray.size ≤ sizeLine := by
    rw [List.size_toArray, List.size_toArray, ← r.length, ← r2.length]
    exact hz
  refine call_meets F.slot_list_extend ⟨_, e, rfl⟩ F.entry_list_extend (F.args_list_extend_2 _ _)
    (meets_extend_tup l its.toArray n b its2.toArray n2 od osl ?_ ?_ ?_) ⟨e, e2, ?_⟩
  · rw [notLongL sz, Bool.and_false]
    exact Bool.false_ne_true
  · omega
  · omega
  · refine ⟨.non, _, I.lset (its' := its ++ its2) hH e (by simp) (r.append r2) ?_, rfl, q⟩
    rw [List.length_append]
    exact hz
end
end Kx
/-! Defs that are called where no repr runs: the layer's promise of a def, with that told. -/
namespace Kx
open PySem PySem.Spec PyProof.Rows L2
/-- nothing around A shows itself -/
def Calm (A : Around) : Prop := A.guards = some []
/-- as FnOk, where nothing around shows itself -/
structure FnG (P : Program) (w : World) (K : PySem.W.Frag) (mg : Str → Option Value) (base : Heap) (k : Nat) (f : Addr) (fd : FuncData) (ps : List Str) (sp : Sp) : Prop where
  len : ∀ vs H Q E, sp vs H Q E → vs.length = ps.length
  run : ∀ (A : Around) (outer : List Env) (s : Shared) (H : Hp) (args : Args) (us : List Value) (vs : List V) (Q : VK) (E : XK), Calm A → Room k A → Env0 P w K mg base A outer s H → BindsTo s fd args (ps.zip us) → Vals vs us → sp vs H Q E →
    codeAny (model P w) A (.call (.ref f) args) (CR CX0 outer P w H s Q E) s
theorem calm_deeper {A : Around} {env : Env} (h : Calm A) : Calm (A.deeper env) := by
  unfold Calm at *
  show (A.deeper env).guards = some []
  simp [Around.deeper, h]
section
variable {P : Program} {w : World} {K : PySem.W.Frag} {mg : Str → Option Value} {base : Heap}
theorem fnG_mono {j k : Nat} {f : Addr} {fd : FuncData} {ps : List Str} {sp : Sp} (F : FnG P w K mg base j f fd ps sp) (h : j ≤ k) : FnG P w K mg base k f fd ps sp :=
  ⟨F.len, fun A outer s H args us vs Q E c hr => F.run A outer s H args us vs Q E c (hr.mono h)⟩
/-- THE RULE: a def of the text by its body -/
theorem okG {x qual : Str} {st : Stmt} {f : Addr} {fd : FuncData} {N ps : List Str} {k : Nat} {sp : Sp} (F : Fun K x qual st f fd) (S : FnScope N ps (defScope st)) (len : ∀ vs H Q E, sp vs H Q E → vs.length = ps.length)
    (hbody : ∀ (cdv : Value) (A : Around) (outer : List Env) (s : Shared) (H : Hp) (vs : List V) (Q : VK) (E : XK), Calm (A.deeper (envOfC qual (defScope st) s.heap.objs.size f cdv)) → Room k (A.deeper (envOfC qual (defScope st) s.heap.objs.size f cdv)) → sp vs H Q E →
      ∃ t, PSs (cxOf CX0 P w K mg base N qual (defScope st) f cdv A outer s H E).nox (defBody st) t ∧ t { nx := fun _ H' => Q .non H', rt := Q } (start N vs) H) : FnG P w K mg base (k + 1) f fd ps sp := by
  obtain ⟨oc, od, kV, doc, pm, an, cdv, ct, osl, rfl, lk, hcd⟩ := F.ex
  constructor
  · exact len
  intro A outer s H args us vs Q E cm hr e0 hb r hsp
  have nl := len _ _ _ _ hsp
  have kin : K.In s.heap := e0.mod.kin.keeps fun b o e => (e0.bs b o e).1
  have lim : s.heap.NoLimit := e0.mod.nolimit.keeps fun b o e => (e0.bs b o e).1
  refine codeAny_call_function hr.depth (kin _ _ lk) rfl S.co S.gen rfl (PySem.W.codeRec_of kin hcd) (hb _ _ _ _ (wpAny_newFunctionEnv_cells S.kind ?_ ?_))
  · rintro ⟨n, v⟩ hy
    rcases S.par n (List.of_mem_zip hy).1 with q | q
    · exact .inl q
    · exact .inr ⟨q, PySem.W.cellsFrom_some _ _ _ (.inl q)⟩
  rintro env rfl s1 x
  refine ⟨lim.keeps x.toInCall.keep, codeAny_func ?_⟩
  obtain ⟨t, ht, hq⟩ := hbody cdv A outer s H vs Q E (calm_deeper cm) (hr.deeper _) hsp
  have J0 := inv_start (CX := CX0) (f := f) (cd := cdv) (E := E) (qual := qual) S hr.hd e0 nl r x
  refine wpAny_mono (ht.nox.run [] s1 _ H _ J0 hq) ?_ fun e s' hs => hs
  intro fl s' hs
  rcases fl with _ | _ | _ | u
  · obtain ⟨σ', H', J, q⟩ := hs
    exact ⟨.non, H', J.os, J.bare, J.base, J.hok, rfl, q⟩
  · obtain ⟨_, _, _, q⟩ := hs
    exact q.elim
  · obtain ⟨_, _, _, q⟩ := hs
    exact q.elim
  · obtain ⟨v, σ', H', J, rv, q⟩ := hs
    exact ⟨v, H', J.os, J.bare, J.base, J.hok, rv, q⟩
end
section
variable {X : Cx} {k : Nat} {f : Addr} {fd : FuncData} {ps : List Str} {sp : Sp} {x : Str} {p pos : Pos} {e : Expr} {es : List Expr} {t : TA} {ds : List Value} {dvs : List V} {E : XK}
/-- f(e, ..) for such a def -/
theorem pe_callG (F : FnG X.prog X.w X.K X.mg X.base k f fd ps sp) (cm : Calm X.A) (hr : Room k X.A) (hg : Gl X x) (hm : X.mg x = some (.ref f)) (hk : PySem.W.keepIn X.K (.ref f) = true) (hb : Binds X.K fd ps [])
    (ha : PA X (e :: es) t) (hdb : (x == ("__debug__" : Str)) = false := by decide) (he : starEach (e :: es) X.env = (false, eval e X.env) :: starEach es X.env := by rfl) (hpl : (backTo pos (starEach es X.env)).any (·.1) = false := by rfl) :
    PE X (.Call (.Name x p) (e :: es) [] pos) (tCall sp [] E0 t) := by
  refine ⟨fun pins s σ H Q I h => wpAny_Call_Name_kw (ld_glob I hg hm ?_ hdb)⟩
  refine PySem.W.callWith_K (h₀ := X.base) I.ok.mod.kin hk (thn (ha.run pos pins s σ H _ I h) ?_) he hpl
  rintro us s1 ⟨vs, H1, I1, r, q⟩
  refine ⟨I1.kIn, ?_⟩
  rw [List.append_nil] at q
  have hl : us.length = ps.length := by
    rw [← r.length]
    exact F.len _ _ _ _ q
  have hb' := hb s1 us I1.kIn (by rw [List.append_nil]; exact hl)
  rw [List.append_nil] at hb'
  refine wpAny_call (codeAny_mono (F.run X.A X.stack s1 H1 ⟨us, []⟩ us vs Q E0 cm hr I1.env0 hb' r q) ?_)
  intro r2 s' hq
  rcases r2 with z | fl
  · exact hq.elim
  rcases fl with _ | _ | _ | u
  · exact hq.elim
  · exact hq.elim
  · exact hq.elim
  · exact I1.after hq
end

section
variable {P : Program} {w : World} {K : PySem.W.Frag} {mg mb : Str → Option Value} {k : Nat} {fa a : Addr} {fd : FuncData} {x : Str} {sp : Sp} {s₁ : Shared} {vs : List Value} {ns : List Int}
/-- what the law's call starts from, over an abstract heap H in which the script alone may stand -/
theorem law_from {H : Hp} (hO : Only H) (hS : SqL K H a (ns.map V.int)) (hok : HOk P w H s₁.heap) (hA : ∀ b, H b ≠ none → b = a) (hK : H a ≠ none → K.lookup a = none)
    (KX : K.In s₁.heap) (hns : s₁.heap.Ns mainGlobals mg) (hb : s₁.heap.Ns builtinsNs mb) (hbb : ∀ x : Str, x ≠ "__name__" → mb x = bootBuiltins x) (hlim : s₁.heap.NoLimit) (hg : s₁.gens = #[])
    (ha : s₁.heap.get? a = some { cls := .type "list", data := .seq vs.toArray }) (hr : Room k callerA)
    (F : ∀ base : Heap, K.In base → base.Ns mainGlobals mg → FnG P w K mg base k fa fd [x] sp) (hbind : ∀ (s : Shared) (u : Value), BindsTo s fd ⟨[u], []⟩ [(x, u)])
    (hsp : sp [.ref a] H (fun v _ => v = .bl true) fun _ _ _ => False) :
    codeAny (model P w) callerA (.call (.ref fa) ⟨[.ref a], []⟩) (fun r s' => r = .ok (.ret (.bool true)) ∧ OldK s₁.heap s'.heap ∧ s'.os = s₁.os ∧ AllBare s'.gens) s₁ := by
  have hid : ∀ {b o}, s₁.heap.get? b = some o → H b = none → (hidT s₁.heap H).get? b = some o := fun e n => hidT_get e n
  have free : ∀ {b : Addr} {o : Obj} {es : Array DictEntry} {ep : Nat}, s₁.heap.get? b = some o → o.data = .dict es ep → H b = none := by
    intro b o es ep e d
    cases q : H b with
    | none => rfl
    | some u =>
      have z := hA b (by simp [q])
      subst z
      rw [ha] at e
      cases e
      cases d
  have ns_of : ∀ {b : Addr} {m : Str → Option Value}, s₁.heap.Ns b m → (hidT s₁.heap H).Ns b m := by
    rintro b m ⟨o, es, ep, e, d, r⟩
    exact ⟨o, es, ep, hid e (free e d), d, r⟩
  have kin : K.In (hidT s₁.heap H) := by
    intro b o e
    refine hid (KX b o e) ?_
    cases q : H b with
    | none => rfl
    | some u =>
      have z := hA b (by simp [q])
      subst z
      rw [hK (by simp [q])] at e
      cases e
  have md : Mod K mg (hidT s₁.heap H) := by
    obtain ⟨mc, h1, h2⟩ := hlim
    exact ⟨kin, ns_of hns, ⟨mb, ns_of hb, hbb⟩, mc, ns_of h1, h2⟩
  have e0 : Env0 P w K mg (hidT s₁.heap H) callerA [] s₁ H := ⟨rfl, md, fun b o e => of_hidT e, Nat.le_of_eq (hidT_size _ _), trivial, fun b hb => (nomatch (show b ∈ ([] : List Addr) from hb)), hok, .of_eq hg⟩
  refine codeAny_mono ((F _ kin (ns_of hns)).run callerA [] s₁ H ⟨[.ref a], []⟩ [Value.ref a] [V.ref a] (fun v _ => v = .bl true) (fun _ _ _ => False) rfl hr e0 (hbind s₁ (.ref a)) (.cons rfl .nil) hsp) ?_
  intro r s' h
  rcases r with e | fl
  · exact h.elim
  rcases fl with _ | _ | _ | u
  · exact h.elim
  · exact h.elim
  · exact h.elim
  obtain ⟨v, H', os, bare, un, hok', r', q⟩ := h
  obtain rfl : v = .bl true := q
  obtain rfl : u = Value.bool true := r'
  refine ⟨rfl, OldK.of_keep fun b o e => ?_, os, bare⟩
  cases q : H b with
  | none => exact un.keep b o e q (fun z => (nomatch (show b ∈ ([] : List Addr) from z))) (fun z => nomatch z)
  | some u =>
    rcases hO b with z | ⟨ob, xs, z⟩
    · rw [q] at z
      cases z
    · obtain ⟨e1, _⟩ := hok b _ z
      obtain ⟨e2, _⟩ := hok' b _ (un.frzs b ob _ z)
      rw [e] at e1
      cases e1
      exact e2
theorem law_callG (KX : K.In s₁.heap) (hns : s₁.heap.Ns mainGlobals mg) (hb : s₁.heap.Ns builtinsNs mb) (hbb : ∀ x : Str, x ≠ "__name__" → mb x = bootBuiltins x) (hlim : s₁.heap.NoLimit) (hg : s₁.gens = #[])
    (ha : s₁.heap.get? a = some { cls := .type "list", data := .seq vs.toArray }) (hi : IntsAre vs ns) (hl : ns.length ≤ sizeLine) (hr : Room k callerA)
    (F : ∀ base : Heap, K.In base → base.Ns mainGlobals mg → FnG P w K mg base k fa fd [x] sp) (hbind : ∀ (s : Shared) (u : Value), BindsTo s fd ⟨[u], []⟩ [(x, u)])
    (hsp : ∀ H : Hp, Only H → SqL K H a (ns.map V.int) → sp [.ref a] H (fun v _ => v = .bl true) fun _ _ _ => False) :
    codeAny (model P w) callerA (.call (.ref fa) ⟨[.ref a], []⟩) (fun r s' => r = .ok (.ret (.bool true)) ∧ OldK s₁.heap s'.heap ∧ s'.os = s₁.os ∧ AllBare s'.gens) s₁ := by
  have rv := vals_ints hi
  have nv := hi.length
  cases hk : K.lookup a with
  | some o =>
    have e := KX a o hk
    rw [ha] at e
    cases e
    have S : SqL K (fun _ => none) a (ns.map V.int) := .inr ⟨_, vs.toArray, _, hk, rfl, rfl, rfl, by rw [List.size_toArray, nv]; exact hl, by simpa using rv⟩
    have O : Only (fun _ => none) := fun _ => .inl rfl
    exact law_from (H := fun _ => none) O S (fun b u z => (by cases (show (none : Option HO) = some u from z))) (fun b z => absurd rfl z) (fun z => absurd rfl z) KX hns hb hbb hlim hg ha hr F hbind (hsp _ O S)
  | none =>
    let ob : Obj := { cls := .type "list", data := .seq vs.toArray }
    let H : Hp := fun b => if b = a then some (.frz ob (.lst (ns.map V.int))) else none
    have at_ : H a = some (.frz ob (.lst (ns.map V.int))) := if_pos rfl
    have off : ∀ b, b ≠ a → H b = none := fun b h => if_neg h
    have S : SqL K H a (ns.map V.int) := .inl (.inr ⟨ob, at_⟩)
    have O : Only H := fun b => by
      by_cases h : b = a
      · subst h
        exact .inr ⟨_, _, at_⟩
      · exact .inl (off b h)
    refine law_from O S (fun b u z => ?_) (fun b z => ?_) (fun _ => hk) KX hns hb hbb hlim hg ha hr F hbind (hsp _ O S)
    · by_cases h : b = a
      · subst h
        rw [at_] at z
        cases z
        exact ⟨ha, by rw [List.length_map]; exact hl, vs, _, rv, ha⟩
      · rw [off b h] at z
        cases z
    · by_cases h : b = a
      · exact h
      · exact absurd (off b h) z
end
/-- as walk_of, for such a law -/
theorem walk_ofG {l : PySem.W.OpenLaw} {n k : Nat} {q : Program} {loose : List Str} {XP : (Str → Option Value) → Heap → Prop} {YP : World → Heap → Prop} {d : DefRec} {K : Params → PySem.W.Frag} {sp : World → Sp} {x : Str}
    (hn : l.most = some n) (hn2 : n ≤ sizeLine) (hdf : d.params.defaults = []) (hr : Room k callerA) (hY : ∀ (w : World) (h : Heap), YP w h → (K w.params).In h)
    (F : ∀ (w : World) (mg : Str → Option Value) (fa : Addr) (h : Heap), (K w.params).In h → h.Ns mainGlobals mg → mg d.name = some (.ref fa) →
      ∃ fd : FuncData, (∀ (s : Shared) (u : Value), BindsTo s fd ⟨[u], []⟩ [(x, u)]) ∧ ∀ base : Heap, (K w.params).In base → base.Ns mainGlobals mg → FnG l.prog w (K w.params) mg base k fa fd [x] (sp w))
    (hsp : ∀ (w : World) (H : Hp) (a : Addr) (ns : List Int), ns.length ≤ n → Only H → SqL (K w.params) H a (ns.map V.int) → sp w [.ref a] H (fun v _ => v = .bl true) fun _ _ _ => False) :
    PySem.W.WalkO q loose XP YP l.row.toRowW d [] (fun f vs => PySem.call f vs) := by
  refine Att.attach_call hn hdf ?_
  intro w s₀ s₁ mg mb fa o pm cd doc a vs ns G Y ho hd hcd hmg hobj hints hlen hg
  have KX := hY w _ Y
  obtain ⟨fd, hb, hF⟩ := F w mg fa _ KX G.T.g hmg
  exact law_callG KX G.T.g G.T.b G.T.builtins G.T.nolimit hg hobj hints (Nat.le_trans hlen hn2) hr hF hb fun H hO hS => hsp w H a ns hlen hO hS
end Kx
/-! Data at addresses, its text, its order. -/
namespace Kx
open PySem PySem.Spec PyProof.Rows L2
/-- a key as data -/
def keyD : Key → PyData
  | .inl i => .int i
  | .inr x => .str x
/-- the pairs of a dict as data; the values are flat -/
inductive KvD : List (Key × V) → List (PyData × PyData) → Prop
  | nil : KvD [] []
  | int {k : Key} {i : Int} {r : List (Key × V)} {ds : List (PyData × PyData)} : KvD r ds → KvD ((k, .int i) :: r) ((keyD k, .int i) :: ds)
mutual
/-- v stands for the data d: as Dp, and dicts -/
inductive Dx (K : PySem.W.Frag) (H : Hp) : V → PyData → Prop
  | non : Dx K H .non .none
  | bl (b : Bool) : Dx K H (.bl b) (.bool b)
  | int (i : Int) : Dx K H (.int i) (.int i)
  | str (x : Str) : Dx K H (.str x) (.str x)
  | lst {a : Addr} {xs : List V} {ds : List PyData} : H a = some (.lst xs) → DxAll K H xs ds → Dx K H (.ref a) (.list ds)
  | tup {a : Addr} {xs : List V} {ds : List PyData} : H a = some (.tup xs) → DxAll K H xs ds → Dx K H (.ref a) (.tuple ds)
  | dic {a : Addr} {kvs : List (Key × V)} {ds : List (PyData × PyData)} : H a = some (.dK kvs) → KvD kvs ds → Dx K H (.ref a) (.dict ds)
inductive DxAll (K : PySem.W.Frag) (H : Hp) : List V → List PyData → Prop
  | nil : DxAll K H [] []
  | cons {v : V} {vs : List V} {d : PyData} {ds : List PyData} : Dx K H v d → DxAll K H vs ds → DxAll K H (v :: vs) (d :: ds)
end
section
variable {K : PySem.W.Frag} {H H' : Hp}
theorem Same.tup {a : Addr} {xs : List V} (e : Same H H') (h : SqT K H a xs) : SqT K H' a xs := by
  rcases h with (h | ⟨o, h⟩) | h
  · exact .inl (.inl (e _ _ h))
  · exact .inl (.inr ⟨o, e _ _ h⟩)
  · exact .inr h
mutual
theorem Dx.up (e : Same H H') : ∀ {d : PyData} {v : V}, Dx K H v d → Dx K H' v d
  | .none, _, h => by cases h; exact .non
  | .bool b, _, h => by cases h; exact .bl b
  | .int i, _, h => by cases h; exact .int i
  | .str x, _, h => by cases h; exact .str x
  | .list ds, _, h => by cases h with | lst a b => exact .lst (e _ _ a) (DxAll.up e b)
  | .tuple ds, _, h => by cases h with | tup a b => exact .tup (e _ _ a) (DxAll.up e b)
  | .dict ds, _, h => by cases h with | dic a b => exact .dic (e _ _ a) b
theorem DxAll.up (e : Same H H') : ∀ {ds : List PyData} {vs : List V}, DxAll K H vs ds → DxAll K H' vs ds
  | [], _, h => by cases h; exact .nil
  | d :: ds, _, h => by cases h with | cons a b => exact .cons (Dx.up e a) (DxAll.up e b)
end
mutual
/-- data without dicts -/
theorem Dx.dp : ∀ {d : PyData} {v : V}, d.hasDict = false → Dx K H v d → Dp K H v d
  | .none, _, _, h => by cases h; exact .non
  | .bool b, _, _, h => by cases h; exact .bl b
  | .int i, _, _, h => by cases h; exact .int i
  | .str x, _, _, h => by cases h; exact .str x
  | .list ds, _, z, h => by cases h with | lst a b => exact .lst (.inl (.inl a)) (DxAll.dp (by simpa [PyData.hasDict] using z) b)
  | .tuple ds, _, z, h => by cases h with | tup a b => exact .tup (.inl (.inl a)) (DxAll.dp (by simpa [PyData.hasDict] using z) b)
  | .dict ds, _, z, h => by simp [PyData.hasDict] at z
theorem DxAll.dp : ∀ {ds : List PyData} {vs : List V}, PyData.hasDictAll ds = false → DxAll K H vs ds → DpAll K H vs ds
  | [], _, _, h => by cases h; exact .nil
  | d :: ds, _, z, h => by
    cases h with
    | cons a b =>
      have z' : d.hasDict = false ∧ PyData.hasDictAll ds = false := by simpa [PyData.hasDictAll] using z
      exact .cons (Dx.dp z'.1 a) (DxAll.dp z'.2 b)
end
theorem DxAll.length : ∀ {vs : List V} {ds : List PyData}, DxAll K H vs ds → vs.length = ds.length
  | _, _, .nil => rfl
  | _, _, .cons _ t => by rw [List.length_cons, List.length_cons, DxAll.length t]
theorem DxAll.append : ∀ {vs us : List V} {ds es : List PyData}, DxAll K H vs ds → DxAll K H us es → DxAll K H (vs ++ us) (ds ++ es)
  | _, _, _, _, .nil, h => h
  | _, _, _, _, .cons a t, h => .cons a (DxAll.append t h)
theorem DxAll.get : ∀ {vs : List V} {ds : List PyData} {i : Nat} {d : PyData}, DxAll K H vs ds → ds[i]? = some d → ∃ v, vs[i]? = some v ∧ Dx K H v d
  | _, _, _, _, .nil, h => by simp at h
  | _, _, 0, _, .cons a _, h => by
    simp at h
    subst h
    exact ⟨_, rfl, a⟩
  | _, _, i + 1, _, .cons _ t, h => by
    obtain ⟨v, e, x⟩ := DxAll.get (i := i) t (by simpa using h)
    exact ⟨v, by simpa using e, x⟩
theorem DxAll.take : ∀ {vs : List V} {ds : List PyData} (i : Nat), DxAll K H vs ds → DxAll K H (vs.take i) (ds.take i)
  | _, _, 0, _ => .nil
  | _, _, _ + 1, .nil => .nil
  | _, _, i + 1, .cons a t => .cons a (DxAll.take i t)
theorem DxAll.drop : ∀ {vs : List V} {ds : List PyData} (i : Nat), DxAll K H vs ds → DxAll K H (vs.drop i) (ds.drop i)
  | _, _, 0, h => h
  | _, _, _ + 1, .nil => .nil
  | _, _, i + 1, .cons _ t => DxAll.drop i t
end
/-- the class of data -/
def tyD : PyData → String
  | .none => "NoneType"
  | .bool _ => "bool"
  | .int _ => "int"
  | .str _ => "str"
  | .list _ => "list"
  | .tuple _ => "tuple"
  | .dict _ => "dict"
theorem Dx.ty {K : PySem.W.Frag} {H : Hp} {d : PyData} {v : V} (h : Dx K H v d) : TyX K H v (.type (tyD d)) := by
  cases h with
  | non => exact .base .non
  | bl b => exact .base (.bl b)
  | int i => exact .base (.int i)
  | str x => exact .base (.str x)
  | lst a _ => exact .base (.lst a)
  | tup a _ => exact .base (.tup a)
  | dic a _ => exact .base (.dK a)
mutual
/-- no list within -/
def noL : PyData → Bool
  | .list _ => false
  | .tuple ds => noLs ds
  | _ => true
def noLs : List PyData → Bool
  | [] => true
  | d :: ds => noL d && noLs ds
end
section
variable {X : Cx} {pins : List (Addr × Obj)} {σ : L2.St} {H : Hp} {s : Shared}
theorem kv_reads {P : Program} {w : World} {h : Heap} : ∀ {kvs : List (Key × V)} {ds : List (PyData × PyData)} {vs : List (Key × Value)} {es : List DictEntry}, KvD kvs ds → KV kvs vs → Pairs (mixKind P w) es vs →
    ReadsAll h (es.map (·.key)) (ds.map (·.1)) [] ∧ ReadsAll h (es.map (·.val)) (ds.map (·.2)) []
  | _, _, _, _, .nil, r, p => by
    cases r
    cases p
    exact ⟨.nil, .nil⟩
  | _, _, _, _, .int (k := k) (i := i) t, r, p => by
    cases r with
    | cons r0 rt =>
      cases p with
      | cons p1 p2 pt =>
        obtain ⟨a, b⟩ := kv_reads (h := h) t rt pt
        obtain ⟨r1, tk, r2⟩ := r0
        refine ⟨ReadsAll.cons (as := []) (bs := []) ?_ a, ReadsAll.cons (as := []) (bs := []) ?_ b⟩
        · rw [← r1] at p1
          rcases keyIs_shape p1 with ⟨j, u, rfl, ee⟩ | ⟨x, u, rfl, ee⟩
          · dsimp only; rw [ee]; exact Reads.int j u
          · dsimp only; rw [ee]; exact Reads.str x u
        · dsimp only
          rw [p2, r2]
          exact Reads.int i tk
mutual
theorem Dx.reads (I : Inv X pins σ H s) : ∀ (d : PyData) (v : V) (u : Value), Dx X.K H v d → RelV v u → ∃ as, Reads s.heap u d as ∧ (noL d = true → sysModules ∉ as)
  | .none, _, _, h, r => by
    cases h
    cases r
    exact ⟨_, Reads.none, fun _ => by simp⟩
  | .bool b, _, _, h, r => by
    cases h
    cases r
    exact ⟨_, Reads.bool b, fun _ => by simp⟩
  | .int i, _, _, h, r => by
    cases h
    obtain ⟨t, rfl⟩ := r
    exact ⟨_, Reads.int i t, fun _ => by simp⟩
  | .str x, _, _, h, r => by
    cases h
    obtain ⟨t, rfl⟩ := r
    exact ⟨_, Reads.str x t, fun _ => by simp⟩
  | .list ds, _, _, h, r => by
    cases h with
    | lst hs ha =>
      cases r
      obtain ⟨its, rv, ⟨o, n, ho, hc, _, hd⟩, _⟩ := I.list (SqL.of hs)
      obtain ⟨as, hr, _⟩ := DxAll.reads I ds _ its ha rv
      exact ⟨_, Reads.list ho hc hd hr, fun z => by simp [noL] at z⟩
  | .tuple ds, _, _, h, r => by
    cases h with
    | tup hs ha =>
      cases r
      obtain ⟨its, rv, ⟨o, ho, hc, n, hd⟩, _⟩ := I.tuple (SqT.of hs)
      obtain ⟨as, hr, z⟩ := DxAll.reads I ds _ its ha rv
      exact ⟨_, Reads.tuple ho hc hd hr, fun q => z (by simpa [noL] using q)⟩
  | .dict ds, _, _, h, r => by
    cases h with
    | dic hs ha =>
      cases r
      obtain ⟨_, ns, vs, rv, o, es, ep, h1, h2, h3, h4, h5, h6⟩ := I.hok _ _ hs
      obtain ⟨q1, q2⟩ := kv_reads (h := s.heap) ha rv h5
      refine ⟨_, Reads.dict h1 h2.1 h3 q1 q2, fun _ => ?_⟩
      have ne : ¬ _ = sysModules := beq_eq_false_iff_ne.mp ns
      simp only [List.append_nil, List.mem_singleton]
      exact fun e => ne e.symm
theorem DxAll.reads (I : Inv X pins σ H s) : ∀ (ds : List PyData) (vs : List V) (us : List Value), DxAll X.K H vs ds → Vals vs us → ∃ as, ReadsAll s.heap us ds as ∧ (noLs ds = true → sysModules ∉ as)
  | [], _, _, h, r => by
    cases h
    cases r
    exact ⟨_, ReadsAll.nil, fun _ => by simp⟩
  | d :: ds, _, _, h, r => by
    cases h with
    | cons h1 h2 =>
      cases r with
      | cons r1 r2 =>
        obtain ⟨as, q1, z1⟩ := Dx.reads I d _ _ h1 r1
        obtain ⟨bs, q2, z2⟩ := DxAll.reads I ds _ _ h2 r2
        refine ⟨_, ReadsAll.cons q1 q2, fun z => ?_⟩
        have z' : noL d = true ∧ noLs ds = true := by simpa [noLs] using z
        simp only [List.mem_append, not_or]
        exact ⟨z1 z'.1, z2 z'.2⟩
end
end
section
variable {X : Cx}
/-- repr(x) of data, where nothing around shows itself -/
def rRepr (K : PySem.W.Frag) : List V → Hp → VK → Prop := fun xs H Q => ∃ x d, xs = [x] ∧ Dx K H x d ∧ d.showable = true ∧ (d.hasDict = true → noL d = true) ∧ d.depth ≤ 60 ∧ d.shown.length + 64 ≤ sizeLine ∧ Q (.str d.shown) H
theorem cr_repr (cm : Calm X.A) (hu : X.A.units + 64 < cLine) : CallR X (.builtin "repr") (rRepr X.K) := by
  intro pins s σ H xs us Q I rv h
  obtain ⟨x, d, rfl, hx, sh, hd, dp, sz, q⟩ := h
  obtain ⟨u, rfl, ru⟩ := rv.one
  obtain ⟨as, rd, ns⟩ := Dx.reads I d x u hx ru
  cases rd with
  | none => exact PySem.P.repr_of_none ⟨.str _, H, I.tok _, ⟨_, rfl⟩, q⟩
  | bool b => exact PySem.P.repr_of_bool ⟨.str _, H, I.tok _, ⟨_, rfl⟩, by simpa [PyData.shown] using q⟩
  | int i t => exact PySem.P.repr_of_int (by simpa [PyData.showable] using sh) ⟨.str _, H, I.tok _, ⟨_, rfl⟩, q⟩
  | str z t => exact PySem.P.repr_of_str ⟨.str _, H, I.tok _, ⟨_, rfl⟩, q⟩ (Nat.le_trans (Nat.le_add_right _ 64) (by simpa [PyData.shown] using sz))
  | list h1 h2 h3 h4 =>
    exact repr_of_reads' (.list h1 h2 h3 h4) sh (fun z => ns (hd z)) cm (by omega) (fun _ _ e => e) (fun h' u tk k => ⟨.str _, H, I.kept k, ⟨_, rfl⟩, q⟩) (by omega)
  | tuple h1 h2 h3 h4 =>
    exact repr_of_reads' (.tuple h1 h2 h3 h4) sh (fun z => ns (hd z)) cm (by omega) (fun _ _ e => e) (fun h' u tk k => ⟨.str _, H, I.kept k, ⟨_, rfl⟩, q⟩) (by omega)
  | dict h1 h2 h3 h4 h5 =>
    exact repr_of_reads' (.dict h1 h2 h3 h4 h5) sh (fun z => ns (hd z)) cm (by omega) (fun _ _ e => e) (fun h' u tk k => ⟨.str _, H, I.kept k, ⟨_, rfl⟩, q⟩) (by omega)
/-- sorted(xs), by the data of the items -/
abbrev Item := V × PyData
def rSortD (K : PySem.W.Frag) : List V → Hp → VK → Prop := fun xs H Q => ∃ (a : Addr) (zs : List Item), xs = [.ref a] ∧ SqL K H a (zs.map Prod.fst) ∧ (∀ p, p ∈ zs → Dp K H p.1 p.2) ∧ PySem.W.AllAlike (zs.map Prod.snd) ∧ PySem.W.Sortable (zs.map Prod.snd) ∧
  zs.length ≤ sizeLine ∧ (∀ p, p ∈ zs → p.2.depth ≤ 60) ∧ ∀ p, H p = none → Q (.ref p) (upd H p (.lst ((zs.mergeSort (PySem.W.dataLe false Prod.snd)).map Prod.fst)))
theorem cr_sortedD (hu : X.A.units + 64 < cLine) : CallR X (.builtin "sorted") (rSortD X.K) := by
  intro pins s σ H xs us Q I rv h
  obtain ⟨a, zs, rfl, hl, hz, al, so, sz, dp, q⟩ := h
  obtain ⟨u, rfl, ru⟩ := rv.one
  cases ru
  obtain ⟨its, r, pl, nl⟩ := I.list hl
  have each : ∀ (zs : List Item) (its : List Value), Vals (zs.map Prod.fst) its → (∀ p, p ∈ zs → Dp X.K H p.1 p.2) → PySem.W.EachIs (fun u (p : Item) => RelV p.1 u ∧ ∃ as, Reads s.heap u p.2 as) its zs := by
    intro zs
    induction zs with
    | nil =>
      intro its r _
      cases r
      exact .nil
    | cons p zs ih =>
      intro its r hz
      cases r with
      | cons r1 rt => exact .cons ⟨r1, Dp.reads I _ _ _ (hz p List.mem_cons_self) r1⟩ (ih _ rt fun q hq => hz q (List.mem_cons_of_mem _ hq))
  have e := each zs its r hz
  have back : ∀ {out : List Value} {ys : List Item}, PySem.W.EachIs (fun u (p : Item) => RelV p.1 u ∧ ∃ as, Reads s.heap u p.2 as) out ys → Vals (ys.map Prod.fst) out := by
    intro out ys h
    induction h with
    | nil => exact .nil
    | cons h _ ih => exact .cons h.1 ih
  refine PySem.W.sorted_data pl.isList e (e.mono fun _ _ h => h.2) al so sz (fun b hb => by have := dp b hb; omega) ?_
  intro out ho eo
  obtain ⟨ep, he⟩ := PyProof.Rows.sortedAll_at s.heap its out.toArray
  have rr := back eo
  have ln : ((zs.mergeSort (PySem.W.dataLe false Prod.snd)).map Prod.fst).length ≤ sizeLine := by
    rw [List.length_map, List.length_mergeSort]
    exact sz
  exact ⟨.ref _, upd H (s.heap.objs.size + 1) (.lst ((zs.mergeSort (PySem.W.dataLe false Prod.snd)).map Prod.fst)), I.laid (t' := s.toks) (fun _ _ => PyProof.Rows.sortedAll_old) (Nat.le_succ _) ⟨ln, out, ep, rr, he⟩, rfl, q _ (I.hok.fresh (Nat.le_succ _))⟩
end
end Kx
/-! Compared with an empty list, an empty tuple. -/
namespace Kx
open PySem PySem.Spec PyProof.Rows L2
section
variable {X : Cx}
def rNilL (K : PySem.W.Frag) (g : Bool → Bool) : R2 := fun x y H Q => ∃ a b xs, x = .ref a ∧ y = .ref b ∧ SqL K H a xs ∧ SqL K H b [] ∧ Q (.bl (g xs.isEmpty)) H
def rNilT (K : PySem.W.Frag) (g : Bool → Bool) : R2 := fun x y H Q => ∃ a b xs, x = .ref a ∧ y = .ref b ∧ SqT K H a xs ∧ SqT K H b [] ∧ Q (.bl (g xs.isEmpty)) H
theorem op_neNil (hu : X.A.units + 64 < cLine) : OpR X (compareOp .NotEq) (rNilL X.K fun b => !b) := by
  intro pins s σ H x y v u Q I rx ry h
  obtain ⟨a, b, xs, rfl, rfl, ha, hb, q⟩ := h
  cases xs with
  | nil => exact op_neD hu pins s σ H _ _ v u Q I rx ry ⟨.list [], .list [], .lst ha .nil, .lst hb .nil, rfl, rfl, by simpa [PyData.eqv, PyData.eqvAll] using q⟩
  | cons z zs =>
    cases rx
    cases ry
    obtain ⟨i1, r1, p1, _⟩ := I.list ha
    obtain ⟨i2, r2, p2, _⟩ := I.list hb
    cases r2
    have ne : (i1.toArray.size != (#[] : Array Value).size) = true := by
      cases r1
      simp
    exact SeqAt.RcNeAt.lists_lengths p1.isList p2.isList ne (by omega) _ _ _ _ ⟨.bl _, H, I, rfl, q⟩
theorem op_eqNil (hu : X.A.units + 64 < cLine) : OpR X (compareOp .Eq) (rNilL X.K fun b => b) := by
  intro pins s σ H x y v u Q I rx ry h
  obtain ⟨a, b, xs, rfl, rfl, ha, hb, q⟩ := h
  cases xs with
  | nil => exact op_eqD hu pins s σ H _ _ v u Q I rx ry ⟨.list [], .list [], .lst ha .nil, .lst hb .nil, rfl, rfl, by simpa [PyData.eqv, PyData.eqvAll] using q⟩
  | cons z zs =>
    cases rx
    cases ry
    obtain ⟨i1, r1, p1, _⟩ := I.list ha
    obtain ⟨i2, r2, p2, _⟩ := I.list hb
    cases r2
    have ne : (i1.toArray.size != (#[] : Array Value).size) = true := by
      cases r1
      simp
    exact SeqAt.RcAt.lists_lengths p1.isList p2.isList ne (by omega) _ _ _ _ ⟨.bl _, H, I, rfl, q⟩
end
end Kx
/-! Displays of data, all at once. -/
namespace Kx
open PySem PySem.Spec PyProof.Rows L2
/-- the heap without S -/
def OffS (S : List Addr) (H : Hp) : Hp := fun b => if b ∈ S then none else H b
def Olds (S : List Addr) (H : Hp) : Prop := ∀ b, b ∈ S → H b ≠ none
section
variable {S : List Addr} {H H' : Hp}
theorem OffS.of {b : Addr} {o : HO} (h : OffS S H b = some o) : b ∉ S ∧ H b = some o := by
  unfold OffS at h
  by_cases e : b ∈ S
  · rw [if_pos e] at h
    cases h
  · rw [if_neg e] at h
    exact ⟨e, h⟩
theorem OffS.out {b : Addr} {o : HO} (n : b ∉ S) (h : H b = some o) : OffS S H b = some o := by
  unfold OffS
  rw [if_neg n]
  exact h
theorem OffS.same (e : Same H H') : Same (OffS S H) (OffS S H') := fun b o h => by
  obtain ⟨n, h⟩ := OffS.of h
  exact OffS.out n (e b o h)
theorem OffS.all : Same (OffS S H) H := fun b o h => (OffS.of h).2
theorem Olds.up (h : Olds S H) (e : Same H H') : Olds S H' := fun b hb z => by
  have := h b hb
  cases k : H b with
  | none => exact this k
  | some o =>
    rw [e b o k] at z
    cases z
theorem Olds.new {p : Addr} (h : Olds S H) (e : H p = none) : p ∉ S := fun z => h p z e
theorem same_put {p : Addr} {o : HO} (h : H p = none) : Same H (upd H p o) := fun b x e => by
  rw [upd_ne (ne_of_none e h)]
  exact e
/-- te makes d anew -/
def Makes (K : PySem.W.Frag) (S : List Addr) (te : TE) (d : PyData) : Prop := ∀ (σ : L2.St) (H : Hp) (Q : VK), Olds S H → (∀ x H', Same H H' → Dx K (OffS S H') x d → Q x H') → te σ H Q
def MakesAll (K : PySem.W.Frag) (S : List Addr) (ta : TA) (ds : List PyData) : Prop := ∀ (σ : L2.St) (H : Hp) (Q : List V → Hp → Prop), Olds S H → (∀ xs H', Same H H' → DxAll K (OffS S H') xs ds → Q xs H') → ta σ H Q
variable {K : PySem.W.Frag} {te : TE} {ta : TA} {d : PyData} {ds : List PyData}
theorem mk_str (x : Str) : Makes K S (tC (.str x)) (.str x) := fun σ H Q _ q => q _ H (Same.refl H) (.str x)
theorem mk_int (i : Int) : Makes K S (tC (.int i)) (.int i) := fun σ H Q _ q => q _ H (Same.refl H) (.int i)
theorem mk_bl (b : Bool) : Makes K S (tC (.bl b)) (.bool b) := fun σ H Q _ q => q _ H (Same.refl H) (.bl b)
theorem mk_non : Makes K S (tC .non) .none := fun σ H Q _ q => q _ H (Same.refl H) .non
theorem mk_nil : MakesAll K S tNil [] := fun σ H Q _ q => q _ H (Same.refl H) .nil
theorem mk_cons (h1 : Makes K S te d) (h2 : MakesAll K S ta ds) : MakesAll K S (tCons te ta) (d :: ds) := fun σ H Q o q =>
  h1 σ H _ o fun x H1 s1 d1 => h2 σ H1 _ (o.up s1) fun xs H2 s2 d2 => q _ H2 (s1.trans s2) (.cons (d1.up (OffS.same s2)) d2)
theorem mk_tup (h : MakesAll K S ta ds) (few : ds.length ≤ sizeLine := by decide) : Makes K S (tTup ta) (.tuple ds) := fun σ H Q o q =>
  h σ H _ o fun xs H1 s1 d1 => ⟨by rw [d1.length]; exact few, fun p np => q _ _ (s1.trans (same_put np)) (.tup (OffS.out ((o.up s1).new np) upd_same) (d1.up (OffS.same (same_put np))))⟩
theorem mk_lst (h : MakesAll K S ta ds) (few : ds.length ≤ sizeLine := by decide) : Makes K S (tLst ta) (.list ds) := fun σ H Q o q =>
  h σ H _ o fun xs H1 s1 d1 => ⟨by rw [d1.length]; exact few, fun p np => q _ _ (s1.trans (same_put np)) (.lst (OffS.out ((o.up s1).new np) upd_same) (d1.up (OffS.same (same_put np))))⟩
theorem mk_dic0 : Makes K S tDNewK (.dict []) := fun σ H Q o q p np => q _ _ (same_put np) (.dic (OffS.out (o.new np) upd_same) .nil)
theorem mk_dic1 (k : Str) (i : Int) : Makes K S (tDisp [(tC (.str k), tC (.int i))]) (.dict [(.str k, .int i)]) := fun σ H Q o q p np => by
  refine ⟨upd_same, [(.inr k, .int i)], rfl, (by show 1 ≤ 15; decide), q _ _ (fun b u hb => ?_) (.dic (OffS.out (o.new np) upd_same) (KvD.int .nil))⟩
  have n := ne_of_none hb np
  rw [upd_ne n, upd_ne n]
  exact hb
/-- xs + ys of such lists -/
theorem mk_cat {tb : TE} {es : List PyData} (h1 : Makes K S te (.list ds)) (h2 : Makes K S tb (.list es)) (few : ds.length + es.length ≤ sizeLine := by decide) : Makes K S (tOp rCat te tb) (.list (ds ++ es)) := fun σ H Q o q =>
  h1 σ H _ o fun x H1 s1 d1 => h2 σ H1 _ (o.up s1) fun y H2 s2 d2 => by
    have d1 := d1.up (OffS.same s2)
    cases d1 with
    | lst ha hx =>
    cases d2 with
    | lst hb hy =>
    rename_i a xs b ys
    refine ⟨a, b, xs, ys, rfl, rfl, OffS.all _ _ ha, OffS.all _ _ hb, by rw [hx.length, hy.length]; exact few, fun p np => ?_⟩
    exact q _ _ (s1.trans (s2.trans (same_put np))) (.lst (OffS.out (((o.up s1).up s2).new np) upd_same) (DxAll.append (hx.up (OffS.same (same_put np))) (hy.up (OffS.same (same_put np)))))
/-- name = [..] of such data -/
theorem asg_mk {j : Nat} {rest : TS} {D : Ends} {σ : L2.St} (m : Makes K S te d) (o : Olds S H) (q : ∀ x H', Same H H' → Dx K (OffS S H') x d → rest D (σ.set j (some x)) H') : tSeq (tAsg te (gName j)) rest D σ H := m σ H _ o q
/-- name = name + [..] of such data -/
theorem cat_mk {j : Nat} {rest : TS} {D : Ends} {σ : L2.St} {i : Nat} {x : V} {es : List PyData} {tb : TE} (hx : σ[i]? = some (some x)) (d1 : Dx K (OffS S H) x (.list ds)) (m : Makes K S tb (.list es)) (few : ds.length + es.length ≤ sizeLine) (o : Olds S H)
    (q : ∀ x H', Same H H' → Dx K (OffS S H') x (.list (ds ++ es)) → rest D (σ.set j (some x)) H') : tSeq (tAsg (tOp rCat (tVar i) tb) (gName j)) rest D σ H :=
  ⟨x, hx, m σ H _ o fun y H2 s2 d2 => by
    have d1 := d1.up (OffS.same s2)
    cases d1 with
    | @lst a xs _ ha hx =>
    cases d2 with
    | @lst b ys _ hb hy =>
    refine ⟨a, b, xs, ys, rfl, rfl, OffS.all _ _ ha, OffS.all _ _ hb, by rw [hx.length, hy.length]; exact few, fun p np => ?_⟩
    exact q _ _ (s2.trans (same_put np)) (.lst (OffS.out ((o.up s2).new np) upd_same) (DxAll.append (hx.up (OffS.same (same_put np))) (hy.up (OffS.same (same_put np)))))⟩
end
end Kx
/-! The text by places, and what its top leaves. Made by mkbase.py. -/
namespace K01
open PySem PySem.Spec PyProof.Rows L2 Kx
def top (i : Nat) : Stmt := PySem.Challenge.pw_shownpart_k01_terms_recognized.main.body.getD i (.Pass ⟨0, 0, 0, 0⟩)
abbrev s_is_name : Stmt := top 7
abbrev N_is_name : List Str := ["value"]
theorem sc_is_name : FnScope N_is_name ["value"] (defScope s_is_name) := ⟨rfl, rfl, rfl, by decide +kernel, rfl, by decide +kernel, by decide +kernel⟩
abbrev s_is_term : Stmt := top 8
abbrev N_is_term : List Str := ["value"]
theorem sc_is_term : FnScope N_is_term ["value"] (defScope s_is_term) := ⟨rfl, rfl, rfl, by decide +kernel, rfl, by decide +kernel, by decide +kernel⟩
abbrev s_is_cell : Stmt := top 9
abbrev N_is_cell : List Str := ["value"]
theorem sc_is_cell : FnScope N_is_cell ["value"] (defScope s_is_cell) := ⟨rfl, rfl, rfl, by decide +kernel, rfl, by decide +kernel, by decide +kernel⟩
abbrev s_make_term : Stmt := top 10
abbrev N_make_term : List Str := ["name", "terms", "result"]
theorem sc_make_term : FnScope N_make_term ["name", "terms"] (defScope s_make_term) := ⟨rfl, rfl, rfl, by decide +kernel, rfl, by decide +kernel, by decide +kernel⟩
abbrev s_make_cells : Stmt := top 11
abbrev N_make_cells : List Str := ["names", "name"]
theorem sc_make_cells : FnScope N_make_cells ["names"] (defScope s_make_cells) := ⟨rfl, rfl, rfl, by decide +kernel, rfl, by decide +kernel, by decide +kernel⟩
abbrev s_check_term : Stmt := top 12
abbrev N_check_term : List Str := ["value"]
theorem sc_check_term : FnScope N_check_term ["value"] (defScope s_check_term) := ⟨rfl, rfl, rfl, by decide +kernel, rfl, by decide +kernel, by decide +kernel⟩
abbrev s_joint_places : Stmt := top 13
abbrev N_joint_places : List Str := ["values", "places", "waiting", "part", "many"]
theorem sc_joint_places : FnScope N_joint_places ["values"] (defScope s_joint_places) := ⟨rfl, rfl, rfl, by decide +kernel, rfl, by decide +kernel, by decide +kernel⟩
abbrev s_has_form : Stmt := top 14
abbrev N_has_form : List Str := ["value"]
theorem sc_has_form : FnScope N_has_form ["value"] (defScope s_has_form) := ⟨rfl, rfl, rfl, by decide +kernel, rfl, by decide +kernel, by decide +kernel⟩
abbrev s__law_dice : Stmt := top 16
abbrev N__law_dice : List Str := ["script", "spot", "cell", "great", "mixed"]
theorem sc__law_dice : FnScope N__law_dice ["script", "spot"] (defScope s__law_dice) := ⟨rfl, rfl, rfl, by decide +kernel, rfl, by decide +kernel, by decide +kernel⟩
abbrev s__law_roll : Stmt := top 17
abbrev N__law_roll : List Str := ["dice", "many", "found", "one", "two"]
theorem sc__law_roll : FnScope N__law_roll ["dice", "many"] (defScope s__law_roll) := ⟨rfl, rfl, rfl, by decide +kernel, rfl, by decide +kernel, by decide +kernel⟩
abbrev s__law_pick : Stmt := top 18
abbrev N__law_pick : List Str := ["dice", "items"]
theorem sc__law_pick : FnScope N__law_pick ["dice", "items"] (defScope s__law_pick) := ⟨rfl, rfl, rfl, by decide +kernel, rfl, by decide +kernel, by decide +kernel⟩
abbrev s__law_mixed : Stmt := top 19
abbrev N__law_mixed : List Str := ["dice", "items", "left", "found"]
theorem sc__law_mixed : FnScope N__law_mixed ["dice", "items"] (defScope s__law_mixed) := ⟨rfl, rfl, rfl, by decide +kernel, rfl, by decide +kernel, by decide +kernel⟩
abbrev s__law_below : Stmt := top 20
abbrev N__law_below : List Str := ["term", "found", "part"]
theorem sc__law_below : FnScope N__law_below ["term"] (defScope s__law_below) := ⟨rfl, rfl, rfl, by decide +kernel, rfl, by decide +kernel, by decide +kernel⟩
abbrev s__law_names : Stmt := top 21
abbrev N__law_names : List Str := ["dice", "few", "pools", "cells", "name", "found"]
theorem sc__law_names : FnScope N__law_names ["dice", "few"] (defScope s__law_names) := ⟨rfl, rfl, rfl, by decide +kernel, rfl, by decide +kernel, by decide +kernel⟩
abbrev s__law_term : Stmt := top 22
abbrev N__law_term : List Str := ["dice", "names", "deep", "some", "name", "places", "row", "turn"]
theorem sc__law_term : FnScope N__law_term ["dice", "names", "deep"] (defScope s__law_term) := ⟨rfl, rfl, rfl, by decide +kernel, rfl, by decide +kernel, by decide +kernel⟩
abbrev s__law_is_name : Stmt := top 23
abbrev N__law_is_name : List Str := ["thing", "sign"]
theorem sc__law_is_name : FnScope N__law_is_name ["thing"] (defScope s__law_is_name) := ⟨rfl, rfl, rfl, by decide +kernel, rfl, by decide +kernel, by decide +kernel⟩
abbrev s__law_is_formed : Stmt := top 24
abbrev N__law_is_formed : List Str := ["thing", "part"]
theorem sc__law_is_formed : FnScope N__law_is_formed ["thing"] (defScope s__law_is_formed) := ⟨rfl, rfl, rfl, by decide +kernel, rfl, by decide +kernel, by decide +kernel⟩
abbrev s__law_is_term : Stmt := top 25
abbrev N__law_is_term : List Str := ["thing", "rows", "part", "row"]
theorem sc__law_is_term : FnScope N__law_is_term ["thing"] (defScope s__law_is_term) := ⟨rfl, rfl, rfl, by decide +kernel, rfl, by decide +kernel, by decide +kernel⟩
abbrev s__law_odd : Stmt := top 26
abbrev N__law_odd : List Str := ["dice", "some"]
theorem sc__law_odd : FnScope N__law_odd ["dice"] (defScope s__law_odd) := ⟨rfl, rfl, rfl, by decide +kernel, rfl, by decide +kernel, by decide +kernel⟩
abbrev s__law_bent : Stmt := top 27
abbrev N__law_bent : List Str := ["dice", "thing", "deep", "at", "way", "part"]
theorem sc__law_bent : FnScope N__law_bent ["dice", "thing", "deep"] (defScope s__law_bent) := ⟨rfl, rfl, rfl, by decide +kernel, rfl, by decide +kernel, by decide +kernel⟩
abbrev s__law_made : Stmt := top 28
abbrev N__law_made : List Str := ["name", "parts"]
theorem sc__law_made : FnScope N__law_made ["name", "parts"] (defScope s__law_made) := ⟨rfl, rfl, rfl, by decide +kernel, rfl, by decide +kernel, by decide +kernel⟩
abbrev s__law_chain : Stmt := top 29
abbrev N__law_chain : List Str := ["total", "term", "turn"]
theorem sc__law_chain : FnScope N__law_chain ["total"] (defScope s__law_chain) := ⟨rfl, rfl, rfl, by decide +kernel, rfl, by decide +kernel, by decide +kernel⟩
abbrev s__law_doubled : Stmt := top 30
abbrev N__law_doubled : List Str := ["total", "term", "turn"]
theorem sc__law_doubled : FnScope N__law_doubled ["total"] (defScope s__law_doubled) := ⟨rfl, rfl, rfl, by decide +kernel, rfl, by decide +kernel, by decide +kernel⟩
abbrev s__law_cells_right : Stmt := top 31
abbrev N__law_cells_right : List Str := ["dice", "one", "two", "three", "told"]
theorem sc__law_cells_right : FnScope N__law_cells_right ["dice"] (defScope s__law_cells_right) := ⟨rfl, rfl, rfl, by decide +kernel, rfl, by decide +kernel, by decide +kernel⟩
abbrev s__law_judged_right : Stmt := top 32
abbrev N__law_judged_right : List Str := ["thing", "kept", "told", "due"]
theorem sc__law_judged_right : FnScope N__law_judged_right ["thing"] (defScope s__law_judged_right) := ⟨rfl, rfl, rfl, by decide +kernel, rfl, by decide +kernel, by decide +kernel⟩
abbrev s_law : Stmt := top 33
abbrev N_law : List Str := ["script", "spot", "dice", "names", "turn", "term", "some", "great", "deep", "thing"]
theorem sc_law : FnScope N_law ["script"] (defScope s_law) := ⟨rfl, rfl, rfl, by decide +kernel, rfl, by decide +kernel, by decide +kernel⟩
/-- what the top leaves -/
structure Tx (K : PySem.W.Frag) (mg : Str → Option Value) where
  b_abs : mg "abs" = none
  b_int : mg "int" = none
  b_isinstance : mg "isinstance" = none
  b_len : mg "len" = none
  b_list : mg "list" = none
  b_max : mg "max" = none
  b_min : mg "min" = none
  b_range : mg "range" = none
  b_repr : mg "repr" = none
  b_set : mg "set" = none
  b_sorted : mg "sorted" = none
  b_str : mg "str" = none
  b_tuple : mg "tuple" = none
  c_MAX_PLACES : ∃ t, mg "MAX_PLACES" = some (.int 3 t)
  c_LONGEST_NAME : ∃ t, mg "LONGEST_NAME" = some (.int 8 t)
  ais_name : Addr
  dis_name : FuncData
  fis_name : Fun K "is_name" "is_name" s_is_name ais_name dis_name
  nis_name : Binds K dis_name ["value"] []
  gis_name : mg "is_name" = some (.ref ais_name)
  ais_term : Addr
  dis_term : FuncData
  fis_term : Fun K "is_term" "is_term" s_is_term ais_term dis_term
  nis_term : Binds K dis_term ["value"] []
  gis_term : mg "is_term" = some (.ref ais_term)
  ais_cell : Addr
  dis_cell : FuncData
  fis_cell : Fun K "is_cell" "is_cell" s_is_cell ais_cell dis_cell
  nis_cell : Binds K dis_cell ["value"] []
  gis_cell : mg "is_cell" = some (.ref ais_cell)
  amake_term : Addr
  dmake_term : FuncData
  fmake_term : Fun K "make_term" "make_term" s_make_term amake_term dmake_term
  gmake_term : mg "make_term" = some (.ref amake_term)
  amake_cells : Addr
  dmake_cells : FuncData
  fmake_cells : Fun K "make_cells" "make_cells" s_make_cells amake_cells dmake_cells
  gmake_cells : mg "make_cells" = some (.ref amake_cells)
  acheck_term : Addr
  dcheck_term : FuncData
  fcheck_term : Fun K "check_term" "check_term" s_check_term acheck_term dcheck_term
  ncheck_term : Binds K dcheck_term ["value"] []
  gcheck_term : mg "check_term" = some (.ref acheck_term)
  ajoint_places : Addr
  djoint_places : FuncData
  fjoint_places : Fun K "joint_places" "joint_places" s_joint_places ajoint_places djoint_places
  njoint_places : Binds K djoint_places ["values"] []
  gjoint_places : mg "joint_places" = some (.ref ajoint_places)
  ahas_form : Addr
  dhas_form : FuncData
  fhas_form : Fun K "has_form" "has_form" s_has_form ahas_form dhas_form
  nhas_form : Binds K dhas_form ["value"] []
  ghas_form : mg "has_form" = some (.ref ahas_form)
  a_law_dice : Addr
  d_law_dice : FuncData
  f_law_dice : Fun K "_law_dice" "_law_dice" s__law_dice a_law_dice d_law_dice
  n_law_dice : Binds K d_law_dice ["script", "spot"] []
  g_law_dice : mg "_law_dice" = some (.ref a_law_dice)
  a_law_roll : Addr
  d_law_roll : FuncData
  f_law_roll : Fun K "_law_roll" "_law_roll" s__law_roll a_law_roll d_law_roll
  n_law_roll : Binds K d_law_roll ["dice", "many"] []
  g_law_roll : mg "_law_roll" = some (.ref a_law_roll)
  a_law_pick : Addr
  d_law_pick : FuncData
  f_law_pick : Fun K "_law_pick" "_law_pick" s__law_pick a_law_pick d_law_pick
  n_law_pick : Binds K d_law_pick ["dice", "items"] []
  g_law_pick : mg "_law_pick" = some (.ref a_law_pick)
  a_law_mixed : Addr
  d_law_mixed : FuncData
  f_law_mixed : Fun K "_law_mixed" "_law_mixed" s__law_mixed a_law_mixed d_law_mixed
  n_law_mixed : Binds K d_law_mixed ["dice", "items"] []
  g_law_mixed : mg "_law_mixed" = some (.ref a_law_mixed)
  a_law_below : Addr
  d_law_below : FuncData
  f_law_below : Fun K "_law_below" "_law_below" s__law_below a_law_below d_law_below
  n_law_below : Binds K d_law_below ["term"] []
  g_law_below : mg "_law_below" = some (.ref a_law_below)
  a_law_names : Addr
  d_law_names : FuncData
  f_law_names : Fun K "_law_names" "_law_names" s__law_names a_law_names d_law_names
  n_law_names : Binds K d_law_names ["dice", "few"] []
  g_law_names : mg "_law_names" = some (.ref a_law_names)
  a_law_term : Addr
  d_law_term : FuncData
  f_law_term : Fun K "_law_term" "_law_term" s__law_term a_law_term d_law_term
  n_law_term : Binds K d_law_term ["dice", "names", "deep"] []
  g_law_term : mg "_law_term" = some (.ref a_law_term)
  a_law_is_name : Addr
  d_law_is_name : FuncData
  f_law_is_name : Fun K "_law_is_name" "_law_is_name" s__law_is_name a_law_is_name d_law_is_name
  n_law_is_name : Binds K d_law_is_name ["thing"] []
  g_law_is_name : mg "_law_is_name" = some (.ref a_law_is_name)
  a_law_is_formed : Addr
  d_law_is_formed : FuncData
  f_law_is_formed : Fun K "_law_is_formed" "_law_is_formed" s__law_is_formed a_law_is_formed d_law_is_formed
  n_law_is_formed : Binds K d_law_is_formed ["thing"] []
  g_law_is_formed : mg "_law_is_formed" = some (.ref a_law_is_formed)
  a_law_is_term : Addr
  d_law_is_term : FuncData
  f_law_is_term : Fun K "_law_is_term" "_law_is_term" s__law_is_term a_law_is_term d_law_is_term
  n_law_is_term : Binds K d_law_is_term ["thing"] []
  g_law_is_term : mg "_law_is_term" = some (.ref a_law_is_term)
  a_law_odd : Addr
  d_law_odd : FuncData
  f_law_odd : Fun K "_law_odd" "_law_odd" s__law_odd a_law_odd d_law_odd
  n_law_odd : Binds K d_law_odd ["dice"] []
  g_law_odd : mg "_law_odd" = some (.ref a_law_odd)
  a_law_bent : Addr
  d_law_bent : FuncData
  f_law_bent : Fun K "_law_bent" "_law_bent" s__law_bent a_law_bent d_law_bent
  n_law_bent : Binds K d_law_bent ["dice", "thing", "deep"] []
  g_law_bent : mg "_law_bent" = some (.ref a_law_bent)
  a_law_made : Addr
  d_law_made : FuncData
  f_law_made : Fun K "_law_made" "_law_made" s__law_made a_law_made d_law_made
  n_law_made : Binds K d_law_made ["name", "parts"] []
  g_law_made : mg "_law_made" = some (.ref a_law_made)
  a_law_chain : Addr
  d_law_chain : FuncData
  f_law_chain : Fun K "_law_chain" "_law_chain" s__law_chain a_law_chain d_law_chain
  n_law_chain : Binds K d_law_chain ["total"] []
  g_law_chain : mg "_law_chain" = some (.ref a_law_chain)
  a_law_doubled : Addr
  d_law_doubled : FuncData
  f_law_doubled : Fun K "_law_doubled" "_law_doubled" s__law_doubled a_law_doubled d_law_doubled
  n_law_doubled : Binds K d_law_doubled ["total"] []
  g_law_doubled : mg "_law_doubled" = some (.ref a_law_doubled)
  a_law_cells_right : Addr
  d_law_cells_right : FuncData
  f_law_cells_right : Fun K "_law_cells_right" "_law_cells_right" s__law_cells_right a_law_cells_right d_law_cells_right
  n_law_cells_right : Binds K d_law_cells_right ["dice"] []
  g_law_cells_right : mg "_law_cells_right" = some (.ref a_law_cells_right)
  a_law_judged_right : Addr
  d_law_judged_right : FuncData
  f_law_judged_right : Fun K "_law_judged_right" "_law_judged_right" s__law_judged_right a_law_judged_right d_law_judged_right
  n_law_judged_right : Binds K d_law_judged_right ["thing"] []
  g_law_judged_right : mg "_law_judged_right" = some (.ref a_law_judged_right)
  alaw : Addr
  dlaw : FuncData
  flaw : Fun K "law" "law" s_law alaw dlaw
  nlaw : Binds K dlaw ["script"] []
  glaw : mg "law" = some (.ref alaw)
end K01
/-! The dice. -/
namespace K01
open PySem PySem.Spec PyProof.Rows L2 Kx
/-- all but a stands -/
def But (a : Addr) (H H' : Hp) : Prop := ∀ b o, H b = some o → b ≠ a → H' b = some o
theorem But.refl (a : Addr) (H : Hp) : But a H H := fun _ _ h _ => h
theorem But.trans {a : Addr} {H H1 H2 : Hp} (x : But a H H1) (y : But a H1 H2) : But a H H2 := fun b o h n => y b o (x b o h n) n
theorem But.of {a : Addr} {H H' : Hp} (x : Same H H') : But a H H' := fun b o h _ => x b o h
theorem But.upd {a : Addr} {H : Hp} {o : HO} : But a H (upd H a o) := fun b u h n => by rw [upd_ne n]; exact h
theorem same_new {H : Hp} {p : Addr} {o : HO} (h : H p = none) : Same H (upd H p o) := fun b x e => by
  rw [upd_ne (ne_of_none e h)]
  exact e
/-- dice at a, rolled n times at most -/
def Dice (H : Hp) (a : Addr) (n : Nat) : Prop := ∃ i0 i1 i2 : Int, H a = some (.lst [.int i0, .int i1, .int i2]) ∧ 0 ≤ i0 ∧ i0 < 2 ^ 2200 ∧ 0 ≤ i1 ∧ i1 < 2 ^ 61 ∧ 0 ≤ i2 ∧ i2 ≤ n
theorem Dice.up {H H' : Hp} {a : Addr} {n : Nat} (d : Dice H a n) (e : Same H H') : Dice H' a n := by
  obtain ⟨i0, i1, i2, h, r⟩ := d
  exact ⟨i0, i1, i2, e _ _ h, r⟩
theorem Dice.le {H : Hp} {a : Addr} {n m : Nat} (d : Dice H a n) (e : n ≤ m) : Dice H a m := by
  obtain ⟨i0, i1, i2, h, a1, a2, a3, a4, a5, a6⟩ := d
  exact ⟨i0, i1, i2, h, a1, a2, a3, a4, a5, by omega⟩
section
variable {P : Program} {w : World} {K : PySem.W.Frag} {mg : Str → Option Value} {base : Heap}
def spDice (K : PySem.W.Frag) : Sp := fun vs H Q _ => ∃ (a : Addr) (ns : List Int) (k : Nat), vs = [.ref a, .int k] ∧ SqL K H a (ns.map V.int) ∧ k < 1000 ∧ ∀ H' p, Same H H' → H p = none → Dice H' p 0 → Q (.ref p) H'
theorem ok_dice (T : Tx K mg) : FnOk P w K mg base CX0 1 T.a_law_dice T.d_law_dice ["script", "spot"] (spDice K) := by
  have nd := sc__law_dice.nd
  refine T.f_law_dice.ok sc__law_dice (fun vs H Q E h => ?_) (fun cdv A outer s H vs Q E hr h => ?_)
  · obtain ⟨a, ns, k, rfl, _⟩ := h
    rfl
  · obtain ⟨a, ns, k, rfl, hS, hk, q⟩ := h
    refine ⟨_, (C8.pss_cut (ps_set (i := 2) nd rfl (.inl rfl) (pe_ifExp (pt_cmpR op_lt (pv 1) (pe_callB call_len_seq (by rfl) T.b_len (by decide +kernel) (pa_cons (pv 0) pa_nil)) (nomark _)) (pe_ix ix_list (pv 0) (pv 1) (fun _ _ => rfl)) (pe_op op_add (pe_op op_mul pe_int (pv 1)) pe_int)))
      (pss_cons (ps_set (i := 3) nd rfl (.inl rfl) (pe_op op_mod (pe_callTy call_int1 (by rfl) T.b_int (by decide +kernel) (pa_cons (pe_callB call_abs (by rfl) T.b_abs (by decide +kernel) (pa_cons (pv 2) pa_nil)) pa_nil)) (pe_op op_powX (pe_op op_pow pe_int pe_int) pe_int)))
      (pss_cons (ps_set (i := 4) nd rfl (.inl rfl) (pe_op op_mul (pe_op op_mod (pe_callTy call_int1 (by rfl) T.b_int (by decide +kernel) (pa_cons (pv 3) pa_nil)) pe_int) pe_int))
      (pss_cons (ps_set (i := 4) nd rfl (.inl rfl) (pe_op op_add (pe_op op_add (pe_op op_add (pv 4) (pe_op op_mul pe_int (pv 1))) (pe_op op_mul pe_int (pe_callTy call_int1 (by rfl) T.b_int (by decide +kernel) (pa_cons (pe_cmpR op_lt (pv 2) pe_int (nomark _)) pa_nil)))) pe_int))
      (pss_one (ps_ret (pe_lst (pa_cons (pe_callB (call_max2 rfl) (by rfl) T.b_max (by decide +kernel) (pa_cons pe_int (pa_cons (pe_op op_add (pe_op op_sub (pv 3) (pe_op op_pow pe_int pe_int)) pe_int) pa_nil))) (pa_cons (pe_op op_mod (pe_callTy call_int1 (by rfl) T.b_int (by decide +kernel) (pa_cons (pv 4) pa_nil)) pe_int) (pa_cons pe_int pa_nil)))))))))), ?_⟩
    -- cell: one or the other int
    refine ⟨fun σ' H' => H' = H ∧ ∃ c : Int, σ' = [some (.ref a), some (.int k), some (.int c), none, none], ?_, ?_⟩
    · refine ⟨_, rfl, .ref a, rfl, a, ns.map V.int, rfl, .inl hS, k, _, rfl, rfl, _, rfl, ite2 (fun hc => ?_) (fun hc => ?_)⟩
      · have lt : k < ns.length := by
          have z := of_decide_eq_true hc
          rw [List.length_map] at z
          omega
        refine ⟨.ref a, rfl, _, rfl, a, ns.map V.int, (k : Int), .int ns[k], rfl, rfl, hS, atI_nat (by rw [List.getElem?_map, List.getElem?_eq_getElem lt]; rfl), rfl, ns[k], rfl⟩
      · exact ⟨_, rfl, 37, k, rfl, rfl, .inl ⟨by decide, by decide⟩, _, _, rfl, rfl, rfl, _, rfl⟩
    rintro σ' H' ⟨rfl, c, rfl⟩
    -- great
    refine ⟨_, rfl, c, rfl, .inl ⟨_, rfl, 10, 59, rfl, rfl, ⟨by decide, by decide, by decide⟩, _, 11, rfl, rfl, ⟨by decide, by decide +kernel⟩, _, _, rfl, rfl, (show (0 : Int) < ((10 : Int) ^ (59 : Int).toNat) ^ (11 : Int).toNat by decide +kernel), ?_⟩⟩
    dsimp only
    have g0 := Int.emod_nonneg (if c < 0 then -c else c) (show ((10 : Int) ^ (59 : Int).toNat) ^ (11 : Int).toNat ≠ 0 by decide +kernel)
    have g1 := Int.emod_lt_of_pos (if c < 0 then -c else c) (show (0 : Int) < ((10 : Int) ^ (59 : Int).toNat) ^ (11 : Int).toNat by decide +kernel)
    have g2 : ((10 : Int) ^ (59 : Int).toNat) ^ (11 : Int).toNat < 2 ^ 2200 := by decide +kernel
    have g3 := Int.lt_trans g1 g2
    clear g1 g2
    generalize (if c < 0 then -c else c) % ((10 : Int) ^ (59 : Int).toNat) ^ (11 : Int).toNat = g at g0 g3 ⊢
    -- mixed
    refine ⟨_, rfl, .inl ⟨g, rfl, g, 2305843009213693951, rfl, rfl, (show (0 : Int) < 2305843009213693951 by decide), _, 7046029254386353, rfl, rfl, .inr ⟨by decide, by decide⟩, ?_⟩⟩
    refine ⟨_, rfl, _, rfl, 131, k, rfl, rfl, .inl ⟨by decide, by decide⟩, _, _, rfl, rfl, _, rfl, c, 0, rfl, rfl, .inr ⟨_, rfl, 17, _, rfl, rfl, .inl ⟨by decide, by decide⟩, _, _, rfl, rfl, _, 3, rfl, rfl, ?_⟩⟩
    dsimp only
    generalize g % 2305843009213693951 * 7046029254386353 + 131 * (k : Int) + 17 * (if decide (c < 0) = true then 1 else 0) + 3 = m
    -- the list
    refine ⟨_, rfl, 10, 18, rfl, rfl, ⟨by decide, by decide, by decide⟩, g, _, rfl, rfl, _, 1, rfl, rfl, 0, _, rfl, _, rfl, .inl ⟨m, rfl, m, 2305843009213693921, rfl, rfl, (show (0 : Int) < 2305843009213693921 by decide), by show 3 ≤ sizeLine; decide, fun p np => ?_⟩⟩
    refine q _ p (same_new np) np ⟨_, _, _, upd_same, ?_, ?_, Int.emod_nonneg _ (by decide), Int.lt_trans (Int.emod_lt_of_pos _ (by decide)) (by decide), by decide, by decide⟩
    · split <;> omega
    · split
      · have : (0 : Int) ≤ 10 ^ (18 : Int).toNat := by decide
        have z : (1 : Int) ≤ 10 ^ (18 : Int).toNat := by decide
        omega
      · decide
end
end K01
/-! The dice rolled; an item picked; items mixed. -/
namespace K01
open PySem PySem.Spec PyProof.Rows L2 Kx
section
variable {P : Program} {w : World} {K : PySem.W.Frag} {mg : Str → Option Value} {base : Heap}
def cap : Nat := 1000000
def spRoll : Sp := fun vs H Q _ => ∃ (a : Addr) (n : Nat) (m : Int), vs = [.ref a, .int m] ∧ Dice H a n ∧ n < cap ∧ 0 < m ∧ m < 1000000 ∧ ∀ (r : Int) H', But a H H' → Dice H' a (n + 1) → 0 ≤ r → r < m → Q (.int r) H'
theorem ok_roll (T : Tx K mg) : FnOk P w K mg base CX0 1 T.a_law_roll T.d_law_roll ["dice", "many"] spRoll := by
  have nd := sc__law_roll.nd
  refine T.f_law_roll.ok sc__law_roll (fun vs H Q E h => ?_) (fun cdv A outer s H vs Q E hr h => ?_)
  · obtain ⟨a, n, m, rfl, _⟩ := h
    rfl
  · obtain ⟨a, n, m, rfl, ⟨i0, i1, i2, hd, h0, h1, h2, h3, h4, h5⟩, hn, m0, m1, q⟩ := h
    have sl : SqL K H a [.int i0, .int i1, .int i2] := .inl (.inl hd)
    refine ⟨_, (pss_cons (ps_if (pt_cmpR op_gt (pe_ix ix_list (pv 0) pe_int (fun _ _ => rfl)) pe_int (nomark _)) (pss_cons (ps_set (i := 2) nd rfl (.inl rfl) (pe_op op_mod (pe_callTy call_int1 (by rfl) T.b_int (by decide +kernel) (pa_cons (pe_ix ix_list (pv 0) pe_int (fun _ _ => rfl)) pa_nil)) (pv 1)))
      (pss_cons (ps_asg (pe_op op_fdivW (pe_ix ix_list (pv 0) pe_int (fun _ _ => rfl)) (pv 1)) (pg_sub (pv 0) pe_int set_list))
      (pss_one (ps_ret (pv 2))))) pss_nil)
      (pss_cons (ps_asg (pe_op op_add (pe_ix ix_list (pv 0) pe_int (fun _ _ => rfl)) pe_int) (pg_sub (pv 0) pe_int set_list))
      (pss_cons (ps_set (i := 3) nd rfl (.inl rfl) (pe_op op_mod (pe_callTy call_int1 (by rfl) T.b_int (by decide +kernel) (pa_cons (pe_op op_add (pe_ix ix_list (pv 0) pe_int (fun _ _ => rfl)) (pe_op op_mul pe_int (pe_ix ix_list (pv 0) pe_int (fun _ _ => rfl)))) pa_nil)) pe_int))
      (pss_cons (ps_set (i := 4) nd rfl (.inl rfl) (pe_op op_add (pe_op op_mul (pe_op op_mod (pe_callTy call_int1 (by rfl) T.b_int (by decide +kernel) (pa_cons (pe_op op_mul (pv 3) (pv 3)) pa_nil)) pe_int) (pv 3)) (pe_op op_mul pe_int (pe_ix ix_list (pv 0) pe_int (fun _ _ => rfl)))))
      (pss_one (ps_ret (pe_op op_mod (pe_callTy call_int1 (by rfl) T.b_int (by decide +kernel) (pa_cons (pe_op op_fdiv (pe_op op_mod (pe_callTy call_int1 (by rfl) T.b_int (by decide +kernel) (pa_cons (pe_op op_add (pe_op op_mulW (pv 4) (pv 4)) (pe_ix ix_list (pv 0) pe_int (fun _ _ => rfl))) pa_nil)) pe_int) pe_int) pa_nil)) (pv 1)))))))), ?_⟩
    refine ⟨_, rfl, a, _, _, _, rfl, rfl, sl, atI_nat (j := 0) rfl, i0, 0, rfl, rfl, _, rfl, ite2 (fun hc => ?_) (fun hc => ?_)⟩
    · -- the great number
      refine ⟨_, rfl, a, _, _, _, rfl, rfl, sl, atI_nat (j := 0) rfl, .inl ⟨i0, rfl, _, rfl, i0, m, rfl, rfl, m0, ?_⟩⟩
      refine ⟨_, rfl, a, _, _, _, rfl, rfl, sl, atI_nat (j := 0) rfl, _, rfl, i0, m, rfl, rfl, wide_div m0 (b := 30) (by omega) (by decide) (by decide), _, rfl, a, _, _, 0, rfl, rfl, hd, rfl, ?_⟩
      refine ⟨_, rfl, q _ _ But.upd ⟨i0 / m, i1, i2, upd_same, Int.ediv_nonneg h0 (by omega), Int.lt_of_le_of_lt (Int.ediv_le_self _ h0) h1, h2, h3, h4, by omega⟩ (Int.emod_nonneg _ (by omega)) (Int.emod_lt_of_pos _ m0)⟩
    · -- the small one
      refine ⟨_, rfl, a, _, _, _, rfl, rfl, sl, atI_nat (j := 2) rfl, i2, 1, rfl, rfl, _, rfl, a, _, _, 2, rfl, rfl, hd, rfl, ?_⟩
      have hd2 : (upd H a (.lst ([V.int i0, V.int i1, V.int i2].set 2 (V.int (i2 + 1))))) a = some (.lst [V.int i0, V.int i1, V.int (i2 + 1)]) := upd_same
      have sl2 : SqL K (upd H a (.lst ([V.int i0, V.int i1, V.int i2].set 2 (V.int (i2 + 1))))) a [.int i0, .int i1, .int (i2 + 1)] := .inl (.inl hd2)
      refine ⟨_, rfl, a, _, _, _, rfl, rfl, sl2, atI_nat (j := 1) rfl, _, rfl, a, _, _, _, rfl, rfl, sl2, atI_nat (j := 2) rfl, 1220703125, i2 + 1, rfl, rfl, .inl ⟨by decide, by decide⟩, i1, _, rfl, rfl, .inl ⟨_, rfl, _, 36028797018963913, rfl, rfl, (show (0 : Int) < 36028797018963913 by decide), ?_⟩⟩
      dsimp only
      have o0 := Int.emod_nonneg (i1 + 1220703125 * (i2 + 1)) (show (36028797018963913 : Int) ≠ 0 by decide)
      have o1 := Int.emod_lt_of_pos (i1 + 1220703125 * (i2 + 1)) (show (0 : Int) < 36028797018963913 by decide)
      generalize (i1 + 1220703125 * (i2 + 1)) % 36028797018963913 = one at o0 o1 ⊢
      refine ⟨_, rfl, _, rfl, one, one, rfl, rfl, .inl ⟨by omega, by omega⟩, .inl ⟨_, rfl, _, 18014398509481951, rfl, rfl, (show (0 : Int) < 18014398509481951 by decide), _, rfl, _, one, rfl, rfl, .inr ⟨by omega, by omega⟩, _, rfl, a, _, _, _, rfl, rfl, sl2, atI_nat (j := 2) rfl, 271828183, i2 + 1, rfl, rfl, .inl ⟨by decide, by decide⟩, _, _, rfl, rfl, ?_⟩⟩
      dsimp only
      have x0 := Int.emod_nonneg (one * one) (show (18014398509481951 : Int) ≠ 0 by decide)
      have x1 := Int.emod_lt_of_pos (one * one) (show (0 : Int) < 18014398509481951 by decide)
      generalize one * one % 18014398509481951 = x at x0 x1 ⊢
      have y0 : 0 ≤ x * one := Int.mul_nonneg x0 o0
      have y1 : x * one ≤ 18014398509481951 * 36028797018963913 := Int.mul_le_mul (by omega) (by omega) o0 (by decide)
      generalize x * one = y at y0 y1 ⊢
      have hn' : (i2 + 1 : Int) ≤ 1000001 := by
        unfold cap at hn
        omega
      have t1 : (y + 271828183 * (i2 + 1)).natAbs < 2 ^ 120 := by omega
      generalize y + 271828183 * (i2 + 1) = two at t1 ⊢
      refine ⟨_, rfl, _, rfl, two, two, rfl, rfl, wide_mul t1 t1 (by decide) (by decide) (by decide), _, rfl, a, _, _, _, rfl, rfl, sl2, atI_nat (j := 1) rfl, _, i1, rfl, rfl, .inl ⟨_, rfl, _, 1125899906842597, rfl, rfl, (show (0 : Int) < 1125899906842597 by decide), _, 4096, rfl, rfl, ⟨by decide, by decide⟩, .inl ⟨_, rfl, _, rfl, _, m, rfl, rfl, m0, ?_⟩⟩⟩
      exact q _ _ But.upd ⟨i0, i1, i2 + 1, hd2, h0, h1, h2, h3, by omega, by omega⟩ (Int.emod_nonneg _ (by omega)) (Int.emod_lt_of_pos _ m0)
/-- an item of a list at b -/
def spPick (K : PySem.W.Frag) : Sp := fun vs H Q _ => ∃ (a b : Addr) (n : Nat) (xs : List V), vs = [.ref a, .ref b] ∧ Dice H a n ∧ n < cap ∧ SqL K H b xs ∧ b ≠ a ∧ 0 < xs.length ∧ xs.length < 1000000 ∧ ∀ (i : Nat) (v : V) H', But a H H' → Dice H' a (n + 1) → xs[i]? = some v → Q v H'
theorem But.sq {a b : Addr} {H H' : Hp} {xs : List V} (x : But a H H') (h : SqL K H b xs) (n : b ≠ a) : SqL K H' b xs := by
  rcases h with (h | ⟨o, h⟩) | h
  · exact .inl (.inl (x _ _ h n))
  · exact .inl (.inr ⟨o, x _ _ h n⟩)
  · exact .inr h
theorem ok_pick (T : Tx K mg) : FnOk P w K mg base CX0 2 T.a_law_pick T.d_law_pick ["dice", "items"] (spPick K) := by
  have nd := sc__law_pick.nd
  have G := ok_roll (P := P) (w := w) (base := base) T
  refine T.f_law_pick.ok sc__law_pick (fun vs H Q E h => ?_) (fun cdv A outer s H vs Q E hr h => ?_)
  · obtain ⟨a, b, n, xs, rfl, _⟩ := h
    rfl
  · obtain ⟨a, b, n, xs, rfl, hd, hn, hb, ne, l0, l1, q⟩ := h
    refine ⟨_, (pss_one (ps_ret (pe_ix ix_list (pv 1) (pe_call G (hr.mono (by decide)) (by rfl) T.g_law_roll T.f_law_roll.kp T.n_law_roll .nil pass0 (pa_cons (pv 0) (pa_cons (pe_callB call_len_seq (by rfl) T.b_len (by decide +kernel) (pa_cons (pv 1) pa_nil)) pa_nil))) (fun _ _ => rfl)))), ?_⟩
    refine ⟨_, rfl, _, rfl, _, rfl, b, xs, rfl, .inl hb, a, n, _, rfl, hd, hn, by omega, by omega, fun r H' bt hd' r0 r1 => ?_⟩
    have lt : r.toNat < xs.length := by omega
    have e : xs[r.toNat]? = some xs[r.toNat] := List.getElem?_eq_getElem lt
    refine ⟨b, xs, r, _, rfl, rfl, bt.sq hb ne, ?_, q _ _ _ bt hd' e⟩
    exact at_of (by omega) e
end
end K01
/-! Items mixed. -/
namespace K01
open PySem PySem.Spec PyProof.Rows L2 Kx
theorem erase_perm {α : Type} : ∀ {l : List α} {k : Nat} {y : α}, l[k]? = some y → (y :: l.eraseIdx k).Perm l
  | [], _, _, h => by simp at h
  | x :: l, 0, y, h => by
    simp at h
    subst h
    exact List.Perm.refl _
  | x :: l, k + 1, y, h => by
    have ih := erase_perm (l := l) (k := k) (y := y) (by simpa using h)
    rw [List.eraseIdx_cons_succ]
    exact (List.Perm.swap _ _ _).trans (ih.cons x)
theorem Dice.same {H H' : Hp} {a : Addr} {n : Nat} (d : Dice H a n) (e : H' a = H a) : Dice H' a n := by
  obtain ⟨i0, i1, i2, h, r⟩ := d
  exact ⟨i0, i1, i2, by rw [e, h], r⟩
section
variable {P : Program} {w : World} {K : PySem.W.Frag} {mg : Str → Option Value} {base : Heap}
/-- items in another order, a new list -/
def spMixed (K : PySem.W.Frag) : Sp := fun vs H Q _ => ∃ (a b : Addr) (n : Nat) (xs : List V), vs = [.ref a, .ref b] ∧ Dice H a n ∧ n + xs.length < cap ∧ SqL K H b xs ∧ b ≠ a ∧ xs.length < 1000 ∧
  ∀ (ys : List V) (p : Addr) H', But a H H' → Dice H' a (n + xs.length) → ys.Perm xs → H p = none → p ≠ a → H' p = some (.lst ys) → Q (.ref p) H'
theorem ok_mixed (T : Tx K mg) : FnOk P w K mg base CX0 2 T.a_law_mixed T.d_law_mixed ["dice", "items"] (spMixed K) := by
  have nd := sc__law_mixed.nd
  have G := ok_roll (P := P) (w := w) (base := base) T
  refine T.f_law_mixed.ok sc__law_mixed (fun vs H Q E h => ?_) (fun cdv A outer s H vs Q E hr h => ?_)
  · obtain ⟨a, b, n, xs, rfl, _⟩ := h
    rfl
  · obtain ⟨a, b, n, xs, rfl, hd, hn, hb, ne, l1, q⟩ := h
    refine ⟨_, (pss_cons (ps_par (i := 2) (j := 3) (by rfl) nd rfl rfl (by decide) rfl rfl (pa_cons (pe_callTy call_list_of (by rfl) T.b_list (by decide +kernel) (pa_cons (pv 1) pa_nil)) (pa_cons (pe_lst pa_nil) pa_nil)) (by rfl))
      (pss_cons (ps_while PassesOwn.never (pt_cmpR (op_neNil hr.units) (pv 2) (pe_lst pa_nil) (nomark _)) (pss_one (ps_expr (pe_bm PySem.F.plainAttrs_list PySem.F.slot_list_append PySem.F.type_list_append mt_append (pv 3) (pa_cons (pe_bm PySem.F.plainAttrs_list PySem.F.slot_list_pop PySem.F.type_list_pop mt_popAt (pv 2) (pa_cons (pe_call G (hr.mono (by decide)) (by rfl) T.g_law_roll T.f_law_roll.kp T.n_law_roll .nil pass0 (pa_cons (pv 0) (pa_cons (pe_callB call_len_seq (by rfl) T.b_len (by decide +kernel) (pa_cons (pv 2) pa_nil)) pa_nil))) pa_nil)) pa_nil)))))
      (pss_one (ps_ret (pv 3))))), ?_⟩
    have na : ∀ {p : Addr}, H p = none → p ≠ a := fun h e => by
      subst e
      obtain ⟨i0, i1, i2, z, _⟩ := hd
      rw [z] at h
      cases h
    refine ⟨_, rfl, b, xs, rfl, .inl hb, fun l nl => ⟨Nat.zero_le _, fun f nf => ?_⟩⟩
    have nl' : H l = none := nl
    have nfl : f ≠ l := fun e => by
      subst e
      rw [upd_same] at nf
      cases nf
    have nf' : H f = none := by
      rw [← nf, upd_ne nfl]
    refine ⟨_, _, rfl, ?_⟩
    -- the loop: what is left at l, what is found at f
    refine ⟨fun m σ H2 => σ = [some (.ref a), some (.ref b), some (.ref l), some (.ref f)] ∧ ∃ ls fs : List V, m = ls.length ∧ H2 l = some (.lst ls) ∧ H2 f = some (.lst fs) ∧ (fs ++ ls).Perm xs ∧ But a H H2 ∧ Dice H2 a (n + fs.length),
      ⟨xs.length, rfl, xs, [], rfl, ?_, upd_same, List.Perm.refl _, ?_, ?_⟩, ?_⟩
    · rw [upd_ne nfl.symm, upd_same]
    · exact But.of ((same_new nl').trans (same_new nf))
    · exact (hd.up ((same_new nl').trans (same_new nf))).le (by omega)
    rintro m σ H2 ⟨rfl, ls, fs, rfl, el, ef, pm, bt, dd⟩
    have len := pm.length_eq
    rw [List.length_append] at len
    refine ⟨_, rfl, Nat.zero_le _, fun e ne' => ?_⟩
    have s3 : Same H2 (upd H2 e (.lst [])) := same_new ne'
    refine ⟨l, e, ls, rfl, rfl, .inl (.inl (s3 _ _ el)), .inl (.inl upd_same), _, rfl, ?_⟩
    cases ls with
    | nil =>
      -- the end
      refine iteF ⟨_, rfl, q fs f _ (bt.trans (But.of s3)) ((dd.up s3).le ?_) ?_ nf' (na nf') (s3 _ _ ef)⟩
      · simp at len
        omega
      · simpa using pm
    | cons y0 ys0 =>
      refine iteT ⟨fun σ' H' => ∃ m', m' < (y0 :: ys0).length ∧ _, fun _ _ h => h, ?_⟩
      have sl : SqL K (upd H2 e (.lst [])) l (y0 :: ys0) := .inl (.inl (s3 _ _ el))
      rw [List.length_cons] at len
      refine ⟨_, rfl, .inl ⟨rfl, fs, .inl (.inl (s3 _ _ ef))⟩, _, rfl, .inl ⟨rfl, _, sl⟩, _, rfl, _, rfl, l, _, rfl, .inl sl, a, n + fs.length, _, rfl, dd.up s3, by omega, by rw [List.length_cons]; omega, by rw [List.length_cons]; omega, fun r H4 b4 d4 r0 r1 => ?_⟩
      have nla : l ≠ a := na nl'
      have nfa : f ≠ a := na nf'
      have el4 := b4 _ _ (s3 _ _ el) nla
      have ef4 := b4 _ _ (s3 _ _ ef) nfa
      have lt : r.toNat < (y0 :: ys0).length := by omega
      have ey : (y0 :: ys0)[r.toNat]? = some (y0 :: ys0)[r.toNat] := List.getElem?_eq_getElem lt
      generalize (y0 :: ys0)[r.toNat] = y at ey
      have bound : (y0 :: ys0).length < 1000 := by
        rw [List.length_cons]
        omega
      refine ⟨l, _, r, r.toNat, y, rfl, rfl, el4, by omega, by omega, PySem.seqIndex_of r0 r1, ey, ?_⟩
      have ef5 : (upd H4 l (.lst ((y0 :: ys0).eraseIdx r.toNat))) f = some (.lst fs) := by
        rw [upd_ne nfl]
        exact ef4
      refine ⟨f, fs, y, rfl, rfl, ef5, small1000 (by omega), ?_⟩
      have lne : ((y0 :: ys0).eraseIdx r.toNat).length + 1 = (y0 :: ys0).length := by
        rw [List.length_eraseIdx_of_lt lt, Nat.sub_add_cancel (by simp)]
      refine ⟨_, by omega, rfl, (y0 :: ys0).eraseIdx r.toNat, fs ++ [y], rfl, ?_, upd_same, ?_, ?_, ?_⟩
      · rw [upd_ne nfl.symm, upd_same]
      · refine List.Perm.trans ?_ pm
        rw [List.append_assoc]
        exact (erase_perm ey).append_left fs
      · intro c o hc hne
        rw [upd_ne (ne_of_none hc nf'), upd_ne (ne_of_none hc nl')]
        exact b4 _ _ (s3 _ _ (bt c o hc hne)) hne
      · rw [List.length_append, List.length_singleton, ← Nat.add_assoc]
        exact d4.same (by rw [upd_ne nfa.symm, upd_ne nla.symm])
end
end K01
/-! Names and forms. -/
namespace K01
open PySem PySem.Spec PyProof.Rows L2 Kx
def letter (c : Nat) : Bool := decide (97 ≤ c) && decide (c ≤ 122)
def isNm (x : Str) : Bool := decide (1 ≤ x.length) && decide (x.length ≤ 8) && x.cps.all letter
theorem ascii_table : ((List.range 128).all fun c => (letter c == (Unicode.isAlpha c && !(Unicode.isUpper c || Unicode.isTitle c))) && (!letter c || Unicode.isLower c)) = true := by decide +kernel
theorem ascii_at {c : Nat} (h : c < 128) : letter c = (Unicode.isAlpha c && !(Unicode.isUpper c || Unicode.isTitle c)) ∧ (letter c = true → Unicode.isLower c = true) := by
  have z := List.all_eq_true.mp ascii_table c (List.mem_range.mpr h)
  rw [Bool.and_eq_true, beq_iff_eq] at z
  refine ⟨z.1, fun l => ?_⟩
  have y := z.2
  rw [l] at y
  simpa using y
theorem letter_ascii {c : Nat} (h : letter c = true) : c < 128 := by
  unfold letter at h
  simp at h
  omega
theorem name_txt (x : Str) : (Txt.isascii x && (Txt.isalpha x && Txt.islower x)) = (decide (1 ≤ x.length) && x.cps.all letter) := by
  rw [Bool.eq_iff_iff]
  simp only [Bool.and_eq_true, Txt.isascii, Txt.isalpha, Txt.islower, Array.all_eq_true, Array.any_eq_true, Bool.not_eq_true', decide_eq_true_eq]
  constructor
  · rintro ⟨h1, ⟨h2, h3⟩, h4, h5⟩
    refine ⟨h2, fun i hi => ?_⟩
    rw [(ascii_at (by simpa using h1 i hi)).1, h3 i hi, Bool.true_and, Bool.not_eq_true']
    exact (by
      have z : ¬ (x.cps.any fun c => Unicode.isUpper c || Unicode.isTitle c) = true := by rw [h5]; exact Bool.false_ne_true
      rw [Array.any_eq_true] at z
      cases e : (Unicode.isUpper x.cps[i] || Unicode.isTitle x.cps[i]) with
      | false => rfl
      | true => exact absurd ⟨i, hi, e⟩ z)
  · rintro ⟨h1, h2⟩
    have a : ∀ (i : Nat) (hi : i < x.cps.size), x.cps[i] < 128 := fun i hi => letter_ascii (h2 i hi)
    have b : ∀ (i : Nat) (hi : i < x.cps.size), Unicode.isAlpha x.cps[i] = true ∧ (Unicode.isUpper x.cps[i] || Unicode.isTitle x.cps[i]) = false := fun i hi => by
      have z := h2 i hi
      rw [(ascii_at (a i hi)).1] at z
      simpa using z
    refine ⟨fun i hi => by simpa using a i hi, ⟨h1, fun i hi => (b i hi).1⟩, ⟨0, h1, (ascii_at (a 0 h1)).2 (h2 0 h1)⟩, ?_⟩
    cases e : (x.cps.any fun c => Unicode.isUpper c || Unicode.isTitle c) with
    | false => rfl
    | true =>
      obtain ⟨i, hi, z⟩ := Array.any_eq_true.mp e
      rw [(b i hi).2] at z
      cases z
def nameD : PyData → Bool
  | .str x => isNm x
  | _ => false
/-- a tuple of a name and at most three others -/
def formD : PyData → Bool
  | .tuple (d :: ds) => decide (ds.length ≤ 3) && nameD d
  | _ => false
theorem kit_str : ∀ d : PyData, kitB (tyD d) "str" = some (match d with | .str _ => true | _ => false)
  | .none => (by decide +kernel : kitB "NoneType" "str" = some false)
  | .bool _ => (by decide +kernel : kitB "bool" "str" = some false)
  | .int _ => (by decide +kernel : kitB "int" "str" = some false)
  | .str _ => (by decide +kernel : kitB "str" "str" = some true)
  | .list _ => (by decide +kernel : kitB "list" "str" = some false)
  | .tuple _ => (by decide +kernel : kitB "tuple" "str" = some false)
  | .dict _ => (by decide +kernel : kitB "dict" "str" = some false)
theorem kit_tuple : ∀ d : PyData, kitB (tyD d) "tuple" = some (match d with | .tuple _ => true | _ => false)
  | .none => (by decide +kernel : kitB "NoneType" "tuple" = some false)
  | .bool _ => (by decide +kernel : kitB "bool" "tuple" = some false)
  | .int _ => (by decide +kernel : kitB "int" "tuple" = some false)
  | .str _ => (by decide +kernel : kitB "str" "tuple" = some false)
  | .list _ => (by decide +kernel : kitB "list" "tuple" = some false)
  | .tuple _ => (by decide +kernel : kitB "tuple" "tuple" = some true)
  | .dict _ => (by decide +kernel : kitB "dict" "tuple" = some false)
section
variable {P : Program} {w : World} {K : PySem.W.Frag} {mg : Str → Option Value} {base : Heap}
def spNm (K : PySem.W.Frag) : Sp := fun vs H Q _ => ∃ (x : V) (d : PyData), vs = [x] ∧ Dx K H x d ∧ (∀ y, d = .str y → y.length ≤ sizeLine) ∧ Q (.bl (nameD d)) H
theorem ok_name (T : Tx K mg) : FnOk P w K mg base CX0 1 T.ais_name T.dis_name ["value"] (spNm K) := by
  have nd := sc_is_name.nd
  obtain ⟨tk, hL⟩ := T.c_LONGEST_NAME
  refine T.fis_name.ok sc_is_name (fun vs H Q E h => ?_) (fun cdv A outer s H vs Q E hr h => ?_)
  · obtain ⟨x, d, rfl, _⟩ := h
    rfl
  · obtain ⟨x, d, rfl, hx, hz, q⟩ := h
    refine ⟨_, (pss_cons (ps_if (PW.pt (pw_or (pt_not (pt_val (pe_callB call_isi (by rfl) T.b_isinstance (by decide +kernel) (pa_cons (pv 0) (pa_cons (pe_bltn (v := .ty "str") (by rfl) T.b_str (by decide +kernel) rfl) pa_nil))))) (pw_or1 (pt_cmpR op_gt (pe_callB call_len_str (by rfl) T.b_len (by decide +kernel) (pa_cons (pv 0) pa_nil)) (pe_glob (v := .int 8) (by rfl) hL ⟨_, rfl⟩) (nomark _))))) (pss_one (ps_ret pe_bl)) pss_nil)
      (pss_one (ps_ret (pe_and (pe_bm0 PySem.F.plainAttrs_str PySem.F.slot_str_isascii PySem.F.type_str_isascii mt_isascii (pv 0)) (pe_and (pe_bm0 PySem.F.plainAttrs_str PySem.F.slot_str_isalpha PySem.F.type_str_isalpha mt_isalpha (pv 0)) (pe_one (pe_bm0 PySem.F.plainAttrs_str PySem.F.slot_str_islower PySem.F.type_str_islower mt_islower (pv 0)))))))), ?_⟩
    refine ⟨x, rfl, x, .ty "str", _, _, _, rfl, .ty _, hx.ty, kit_ty (kit_str d), _, rfl, ?_⟩
    cases hx with
    | str z =>
      refine iteF ⟨_, rfl, z, rfl, hz z rfl, _, _, rfl, rfl, _, rfl, ite2 (fun h8 => ?_) (fun h8 => ?_)⟩
      · -- too long
        have h9 := of_decide_eq_true h8
        have e : nameD (.str z) = false := by
          simp [nameD, isNm]
          omega
        rw [e] at q
        exact q
      · have h9 : z.length ≤ 8 := by
          simp at h8
          omega
        have e : nameD (.str z) = (Txt.isascii z && (Txt.isalpha z && Txt.islower z)) := by
          rw [name_txt]
          simp [nameD, isNm, h9]
        rw [e] at q
        refine ⟨_, rfl, rfl, z, rfl, rfl, trivial, _, rfl, ?_⟩
        cases e1 : Txt.isascii z with
        | false =>
          rw [e1] at q
          exact iteF q
        | true =>
          rw [e1, Bool.true_and] at q
          refine iteT ⟨_, rfl, rfl, z, rfl, rfl, trivial, _, rfl, ?_⟩
          cases e2 : Txt.isalpha z with
          | false =>
            rw [e2] at q
            exact iteF q
          | true =>
            rw [e2, Bool.true_and] at q
            exact iteT ⟨_, rfl, rfl, z, rfl, rfl, trivial, q⟩
    | non => exact iteT (iteT q)
    | bl b => exact iteT (iteT q)
    | int i => exact iteT (iteT q)
    | lst _ _ => exact iteT (iteT q)
    | tup _ _ => exact iteT (iteT q)
    | dic _ _ => exact iteT (iteT q)
/-- a value's form: a tuple of a name and at most three others -/
def spForm (K : PySem.W.Frag) : Sp := fun vs H Q _ => ∃ (x : V) (d : PyData), vs = [x] ∧ Dx K H x d ∧ (∀ ds, d = .tuple ds → ∀ y, .str y ∈ ds → y.length ≤ sizeLine) ∧ Q (.bl (formD d)) H
theorem ok_form (T : Tx K mg) : FnOk P w K mg base CX0 2 T.ahas_form T.dhas_form ["value"] (spForm K) := by
  have nd := sc_has_form.nd
  obtain ⟨tk, hM⟩ := T.c_MAX_PLACES
  have G := ok_name (P := P) (w := w) (base := base) T
  refine T.fhas_form.ok sc_has_form (fun vs H Q E h => ?_) (fun cdv A outer s H vs Q E hr h => ?_)
  · obtain ⟨x, d, rfl, _⟩ := h
    rfl
  · obtain ⟨x, d, rfl, hx, hz, q⟩ := h
    refine ⟨_, (pss_one (ps_ret (pe_and (pe_callB call_isi (by rfl) T.b_isinstance (by decide +kernel) (pa_cons (pv 0) (pa_cons (pe_bltn (v := .ty "tuple") (by rfl) T.b_tuple (by decide +kernel) rfl) pa_nil))) (pe_and (pe_chain op_le op_le pe_int (pe_callB call_len_seq (by rfl) T.b_len (by decide +kernel) (pa_cons (pv 0) pa_nil)) (pe_op op_add (pe_glob (v := .int 3) (by rfl) hM ⟨_, rfl⟩) pe_int)) (pe_one (pe_call G (hr.mono (by decide)) (by rfl) T.gis_name T.fis_name.kp T.nis_name .nil pass0 (pa_cons (pe_ix ix_tup (pv 0) pe_int (fun _ _ => rfl)) pa_nil))))))), ?_⟩
    refine ⟨x, rfl, x, .ty "tuple", _, _, _, rfl, .ty _, hx.ty, kit_ty (kit_tuple d), _, rfl, ?_⟩
    cases hx with
    | tup ha hs =>
      rename_i a xs ds
      have len := hs.length
      refine iteT ⟨_, rfl, a, xs, rfl, .inr (SqT.of ha), 1, _, rfl, rfl, _, rfl, ite2 (fun h1 => ?_) (fun h1 => ?_)⟩
      · have l1 : 0 < xs.length := by
          have := of_decide_eq_true h1
          omega
        refine ⟨3, 1, rfl, rfl, _, _, rfl, rfl, _, rfl, ite2 (fun h4 => ?_) (fun h4 => ?_)⟩
        · have l4 : xs.length ≤ 4 := by
            have := of_decide_eq_true h4
            omega
          cases hs with
          | nil => simp at l1
          | cons h0 ht =>
            rename_i v vs d ds
            refine ⟨_, rfl, a, _, 0, v, rfl, rfl, SqT.of ha, atI_nat (j := 0) rfl, v, d, rfl, h0, fun y e => hz _ rfl y (by rw [e]; exact List.mem_cons_self), ?_⟩
            have e : formD (.tuple (d :: ds)) = nameD d := by
              have := ht.length
              simp [formD]
              rw [List.length_cons] at l4
              omega
            rw [e] at q
            exact q
        · have e : formD (.tuple ds) = false := by
            cases ds with
            | nil => rfl
            | cons d ds =>
              rw [List.length_cons] at len
              simp [formD]
              intro z
              simp at h4
              omega
          rw [e] at q
          exact q
      · have e : formD (.tuple ds) = false := by
          cases ds with
          | nil => rfl
          | cons d ds =>
            rw [List.length_cons] at len
            simp at h1
            omega
        rw [e] at q
        exact ⟨_, rfl, iteF q⟩
    | non => exact iteF q
    | bl b => exact iteF q
    | int i => exact iteF q
    | lst _ _ => exact iteF q
    | str _ => exact iteF q
    | dic _ _ => exact iteF q
end
end K01
/-! What is a term, over data. -/
namespace K01
open PySem PySem.Spec PyProof.Rows L2 Kx
mutual
/-- how many parts, all counted -/
def szD : PyData → Nat
  | .tuple ds => szAll ds + 1
  | _ => 1
def szAll : List PyData → Nat
  | [] => 0
  | d :: ds => szD d + szAll ds
end
mutual
/-- of the form, all through -/
def formedD : PyData → Bool
  | .tuple (d :: ds) => decide (ds.length ≤ 3) && nameD d && formedAll ds
  | _ => false
def formedAll : List PyData → Bool
  | [] => true
  | d :: ds => formedD d && formedAll ds
end
abbrev NK := Str × Nat
def headD : PyData → Str
  | .str x => x
  | _ => Str.empty
mutual
/-- the names in a formed datum, with their places -/
def rowsD : PyData → List NK
  | .tuple (d :: ds) => (headD d, ds.length) :: rowsAll ds
  | _ => []
def rowsAll : List PyData → List NK
  | [] => []
  | d :: ds => rowsD d ++ rowsAll ds
end
mutual
/-- texts are short -/
def shortD : PyData → Bool
  | .str x => decide (x.length ≤ 1000)
  | .tuple ds => shortAll ds
  | _ => true
def shortAll : List PyData → Bool
  | [] => true
  | d :: ds => shortD d && shortAll ds
end
def Func (l : List NK) : Prop := ∀ p, p ∈ l → ∀ q, q ∈ l → p.1 = q.1 → p.2 = q.2
instance (l : List NK) : Decidable (Func l) := decidable_of_iff (∀ p ∈ l, ∀ q ∈ l, p.1 = q.1 → p.2 = q.2) ⟨fun h => h, fun h => h⟩
def termD (d : PyData) : Bool := formedD d && decide (Func (rowsD d))
theorem szD_pos (d : PyData) : 0 < szD d := by
  cases d <;> simp [szD]
theorem szAll_append : ∀ (l m : List PyData), szAll (l ++ m) = szAll l + szAll m
  | [], m => by simp [szAll]
  | d :: l, m => by simp [szAll, szAll_append l m, Nat.add_assoc]
theorem formedAll_append : ∀ (l m : List PyData), formedAll (l ++ m) = (formedAll l && formedAll m)
  | [], m => by simp [formedAll]
  | d :: l, m => by simp [formedAll, formedAll_append l m, Bool.and_assoc]
theorem rowsAll_append : ∀ (l m : List PyData), rowsAll (l ++ m) = rowsAll l ++ rowsAll m
  | [], m => by simp [rowsAll]
  | d :: l, m => by simp [rowsAll, rowsAll_append l m]
theorem shortAll_append : ∀ (l m : List PyData), shortAll (l ++ m) = (shortAll l && shortAll m)
  | [], m => by simp [shortAll]
  | d :: l, m => by simp [shortAll, shortAll_append l m, Bool.and_assoc]
theorem length_le_sz : ∀ l : List PyData, l.length ≤ szAll l
  | [] => Nat.le_refl _
  | d :: l => by
    have := length_le_sz l
    have := szD_pos d
    simp only [List.length_cons, szAll]
    omega
theorem Func.congr {l m : List NK} (h : ∀ p, p ∈ l ↔ p ∈ m) : Func l ↔ Func m :=
  ⟨fun f p hp q hq => f p ((h p).mpr hp) q ((h q).mpr hq), fun f p hp q hq => f p ((h p).mp hp) q ((h q).mp hq)⟩
/-- what is still to be seen: the names so far, the data that wait -/
def Todo (m : List NK) (st : List PyData) : Prop := formedAll st = true ∧ Func (m ++ rowsAll st)
theorem todo_one (d : PyData) : Todo [] [d] ↔ termD d = true := by
  simp [Todo, termD, formedAll, rowsAll]
theorem todo_bad {m : List NK} {st : List PyData} {e : PyData} (h : formD e = false) : ¬ Todo m (st ++ [e]) := by
  rintro ⟨h1, _⟩
  rw [formedAll_append] at h1
  simp [formedAll] at h1
  cases e with
  | tuple ds =>
    cases ds with
    | nil => simp [formedD] at h1
    | cons d ds =>
      simp [formD] at h
      simp [formedD] at h1
      obtain ⟨_, ⟨a, b⟩, c⟩ := h1
      have := h a
      rw [b] at this
      cases this
  | _ => simp [formedD] at h1
theorem todo_clash {m : List NK} {st ds : List PyData} {x : Str} {k : Nat} (h : (x, k) ∈ m) (hk : k ≠ ds.length) : ¬ Todo m (st ++ [.tuple (.str x :: ds)]) := by
  rintro ⟨_, h2⟩
  refine hk (h2 (x, k) (List.mem_append_left _ h) (x, ds.length) (List.mem_append_right _ ?_) rfl)
  rw [rowsAll_append]
  simp [rowsAll, rowsD, headD]
theorem todo_step {m m' : List NK} {st ds : List PyData} {x : Str} (hf : formD (.tuple (.str x :: ds)) = true) (hm : ∀ p, p ∈ m' ↔ p ∈ m ∨ p = (x, ds.length)) :
    Todo m (st ++ [.tuple (.str x :: ds)]) ↔ Todo m' (st ++ ds) := by
  unfold Todo
  rw [formedAll_append, formedAll_append, rowsAll_append, rowsAll_append]
  have e1 : formedAll [.tuple (.str x :: ds)] = formedAll ds := by
    simp [formD] at hf
    simp [formedAll, formedD, hf.1, hf.2]
  rw [e1]
  refine and_congr Iff.rfl (Func.congr fun p => ?_)
  simp only [List.mem_append, rowsAll, rowsD, headD, hm, List.append_nil, List.mem_cons]
  constructor
  · rintro (h | h | h | h)
    · exact .inl (.inl h)
    · exact .inr (.inl h)
    · exact .inl (.inr h)
    · exact .inr (.inr h)
  · rintro ((h | h) | h | h)
    · exact .inl h
    · exact .inr (.inr (.inl h))
    · exact .inr (.inl h)
    · exact .inr (.inr (.inr h))
theorem todo_done {m : List NK} (h : Func m) : Todo m [] := ⟨rfl, by simpa [rowsAll] using h⟩
end K01
/-! joint_places, is_term, is_cell, check_term. -/
namespace K01
open PySem PySem.Spec PyProof.Rows L2 Kx
theorem snocDx {K : PySem.W.Frag} {H : Hp} : ∀ {vs : List V} {st : List PyData} {e : PyData}, DxAll K H vs (st ++ [e]) → ∃ us v, vs = us ++ [v] ∧ DxAll K H us st ∧ Dx K H v e
  | _, [], e, h => by
    cases h with
    | cons a t =>
      cases t
      exact ⟨[], _, rfl, .nil, a⟩
  | _, d :: st, e, h => by
    cases h with
    | cons a t =>
      obtain ⟨us, v, rfl, q, r⟩ := snocDx t
      exact ⟨_ :: us, v, rfl, .cons a q, r⟩
theorem snoc_or {α : Type} (l : List α) : l = [] ∨ ∃ st e, l = st ++ [e] := by
  rcases List.eq_nil_or_concat l with h | ⟨st, e, h⟩
  · exact .inl h
  · exact .inr ⟨st, e, by rw [h, List.concat_eq_append]⟩
/-- a dict of names and places -/
def dictOf (m : List NK) : List (Key × V) := m.map fun p => (Sum.inr p.1, V.int p.2)
theorem val_some {x : Str} {v : V} : ∀ {m : List NK}, valV (dictOf m) (Sum.inr x) = some v → ∃ k, (x, k) ∈ m ∧ v = .int k
  | [], h => by cases h
  | p :: m, h => by
    by_cases e : p.1 = x
    · rw [show dictOf (p :: m) = (Sum.inr p.1, V.int p.2) :: dictOf m from rfl, valV_pos (by rw [e])] at h
      exact ⟨p.2, by rw [← e]; exact List.mem_cons_self, (Option.some.inj h).symm⟩
    · rw [show dictOf (p :: m) = (Sum.inr p.1, V.int p.2) :: dictOf m from rfl, valV_neg (fun z => e (Sum.inr.inj z))] at h
      obtain ⟨k, a, b⟩ := val_some h
      exact ⟨k, List.mem_cons_of_mem _ a, b⟩
theorem val_none {x : Str} : ∀ {m : List NK}, valV (dictOf m) (Sum.inr x) = none → ∀ k, (x, k) ∉ m
  | [], _, k => fun z => (nomatch z)
  | p :: m, h, k => by
    by_cases e : p.1 = x
    · rw [show dictOf (p :: m) = (Sum.inr p.1, V.int p.2) :: dictOf m from rfl, valV_pos (by rw [e])] at h
      cases h
    · rw [show dictOf (p :: m) = (Sum.inr p.1, V.int p.2) :: dictOf m from rfl, valV_neg (fun z => e (Sum.inr.inj z))] at h
      intro z
      rcases List.mem_cons.mp z with z | z
      · exact e (by rw [← z])
      · exact val_none h k z
theorem short_mem : ∀ {ds : List PyData} {y : Str}, shortAll ds = true → PyData.str y ∈ ds → y.length ≤ 1000
  | [], _, _, h => (nomatch h)
  | d :: ds, y, hs, h => by
    rw [shortAll, Bool.and_eq_true] at hs
    rcases List.mem_cons.mp h with e | h
    · rw [← e] at hs
      simpa [shortD] using hs.1
    · exact short_mem hs.2 h
theorem cut_one {xs : List V} (h : xs ≠ []) : cutV xs (some 1) none = xs.drop 1 := by
  unfold cutV
  rw [show HT.sIx xs.length 0 (some 1) = min 1 xs.length from HT.sIx_nat xs.length 0 1, HT.sIx_none]
  cases xs with
  | nil => exact absurd rfl h
  | cons x r =>
    rw [show min 1 (x :: r).length = 1 by rw [List.length_cons]; omega]
    simp
theorem iteNT {c A B : Prop} [Decidable c] (hc : ¬ c) (h : A) : if (!decide c) = true then A else B := by
  rw [decide_eq_false hc]
  exact iteT h
section
variable {P : Program} {w : World} {K : PySem.W.Frag} {mg : Str → Option Value} {base : Heap}
def spJoint (K : PySem.W.Frag) : Sp := fun vs H Q _ => ∃ (a : Addr) (x : V) (d : PyData), vs = [.ref a] ∧ SqL K H a [x] ∧ Dx K H x d ∧ shortD d = true ∧ szD d ≤ 100000 ∧
  ∀ v H', Same H H' → (termD d = false → v = .non) → (termD d = true → ∃ p, v = .ref p) → Q v H'
theorem ok_joint (T : Tx K mg) : FnOk P w K mg base CX0 3 T.ajoint_places T.djoint_places ["values"] (spJoint K) := by
  have nd := sc_joint_places.nd
  have G := ok_form (P := P) (w := w) (base := base) T
  refine T.fjoint_places.ok sc_joint_places (fun vs H Q E h => ?_) (fun cdv A outer s H vs Q E hr h => ?_)
  · obtain ⟨a, x, d, rfl, _⟩ := h
    rfl
  · obtain ⟨a, x, d, rfl, ha, hx, hs, hz, q⟩ := h
    have hu := hu_of hr
    refine ⟨_, (pss_cons (ps_set (i := 1) nd rfl (.inl rfl) pe_dnewK)
      (pss_cons (ps_set (i := 2) nd rfl (.inl rfl) (pe_callTy call_list_of (by rfl) T.b_list (by decide +kernel) (pa_cons (pv 0) pa_nil)))
      (pss_cons (ps_while PassesOwn.never (pt_truth (pv 2) (by intro _; rfl)) (pss_cons (ps_set (i := 3) nd rfl (.inl rfl) (pe_bm0 PySem.F.plainAttrs_list PySem.F.slot_list_pop PySem.F.type_list_pop mt_pop (pv 2)))
      (pss_cons (ps_if (pt_not (pt_val (pe_call G (hr.mono (by decide)) (by rfl) T.ghas_form T.fhas_form.kp T.nhas_form .nil pass0 (pa_cons (pv 3) pa_nil)))) (pss_one (ps_ret pe_non)) pss_nil)
      (pss_cons (ps_set (i := 4) nd rfl (.inl rfl) (pe_op op_sub (pe_callB call_len_seq (by rfl) T.b_len (by decide +kernel) (pa_cons (pv 3) pa_nil)) pe_int))
      (C8.pss_cut (ps_if (pt_cmpR op_ne (pe_dsetd (pv 1) (pe_ix ix_tup (pv 3) pe_int (fun _ _ => rfl)) (pv 4) ⟨by rfl, by rfl, by rfl, by rfl⟩) (pv 4) (nomark _)) (pss_one (ps_ret pe_non)) pss_nil)
      (pss_one (ps_expr (pe_bm PySem.F.plainAttrs_list PySem.F.slot_list_extend PySem.F.type_list_extend mt_extT (pv 2) (pa_cons (pe_slice sl_tupA (pv 3) (po_some pe_int) po_none) pa_nil)))))))))
      (pss_one (ps_ret (pv 1)))))), ?_⟩
    -- places = {}; waiting = list(values)
    intro pl npl
    have s1 : Same H (upd H pl (.dK [])) := same_new npl
    refine ⟨_, rfl, a, [x], rfl, .inl (s1.seq ha), fun wl nwl => ?_⟩
    have nwp : wl ≠ pl := fun e => by
      subst e
      rw [upd_same] at nwl
      cases nwl
    have nwl' : H wl = none := by rw [← nwl, upd_ne nwp]
    have s2 : Same H (upd (upd H pl (.dK [])) wl (.lst [x])) := s1.trans (same_new nwl)
    refine ⟨fun m σ H2 => (∃ y3 y4, σ = [some (.ref a), some (.ref pl), some (.ref wl), y3, y4]) ∧ ∃ (vs : List V) (st : List PyData) (ms : List NK), m = szAll st ∧ H2 wl = some (.lst vs) ∧ H2 pl = some (.dK (dictOf ms)) ∧ Same H H2 ∧ DxAll K H vs st ∧
        shortAll st = true ∧ ms.length + szAll st ≤ 100000 ∧ Func ms ∧ (termD d = true ↔ Todo ms st),
      ⟨szAll [d], ⟨none, none, rfl⟩, [x], [d], [], rfl, upd_same, ?_, s2, .cons hx .nil, by simp [shortAll, hs], by simpa [szAll] using hz, fun p hp => (nomatch hp), (todo_one d).symm⟩, ?_⟩
    · rw [upd_ne nwp.symm, upd_same]
      rfl
    rintro m σ H2 ⟨⟨y3, y4, rfl⟩, vs, st, ms, rfl, ew, ep, sm, dx, sh, bd, fn, iff⟩
    refine ⟨_, rfl, _, .inl ⟨vs, .inl (.inl ew), rfl⟩, ?_⟩
    rcases snoc_or st with rfl | ⟨st, e, rfl⟩
    · -- nothing waits
      cases dx
      refine iteF ⟨_, rfl, q _ _ sm (fun z => ?_) fun _ => ⟨pl, rfl⟩⟩
      rw [iff.mpr (todo_done fn)] at z
      cases z
    obtain ⟨us, v, rfl, dx', hv⟩ := snocDx dx
    have ne : (!(us ++ [v]).isEmpty) = true := by cases us <;> rfl
    rw [ne]
    rw [shortAll_append, Bool.and_eq_true] at sh
    have she : shortD e = true := by simpa [shortAll] using sh.2
    refine iteT ⟨fun σ' H' => ∃ m', m' < szAll (st ++ [e]) ∧ _, fun _ _ h => h, ?_⟩
    -- part = waiting.pop()
    refine ⟨_, rfl, .inl ⟨rfl, _, .inl (.inl ew)⟩, wl, _, v, rfl, rfl, ew, by simp, ?_⟩
    rw [List.dropLast_concat]
    have sm3 : Same H (upd H2 wl (.lst us)) := fun c o hc => by
      rw [upd_ne (ne_of_none hc nwl')]
      exact sm c o hc
    -- if not has_form(part): return None
    refine ⟨_, rfl, v, e, rfl, hv.up sm3, fun ds he y hy => ?_, _, rfl, ?_⟩
    · subst he
      refine Nat.le_trans (short_mem (by simpa [shortD] using she) hy) (by decide)
    cases hf : formD e with
    | false =>
      refine iteT (q .non _ sm3 (fun _ => rfl) fun z => ?_)
      exact absurd (iff.mp z) (todo_bad hf)
    | true =>
      obtain ⟨x1, es, rfl⟩ : ∃ x1 es, e = .tuple (.str x1 :: es) := by
        cases e with
        | tuple ds =>
          cases ds with
          | nil => cases hf
          | cons d0 ds =>
            simp only [formD, Bool.and_eq_true] at hf
            cases d0 with
            | str z => exact ⟨z, ds, rfl⟩
            | _ => cases hf.2
        | _ => cases hf
      cases hv with
      | tup hb hxs =>
      rename_i b xs
      cases hxs with
      | cons h0 hw =>
      rename_i v0 ws
      cases h0
      have lw := hw.length
      have l3 : es.length ≤ 3 := by
        simp only [formD, Bool.and_eq_true, decide_eq_true_eq] at hf
        exact hf.1
      -- many = len(part) - 1
      refine iteF ⟨_, rfl, b, _, rfl, .inr (SqT.of (sm3 _ _ hb)), _, 1, rfl, rfl, ?_⟩
      have em : ((V.str x1 :: ws).length : Int) - 1 = (es.length : Int) := by
        rw [List.length_cons]
        omega
      dsimp only
      rw [em]
      have ep3 : (upd H2 wl (.lst us)) pl = some (.dK (dictOf ms)) := by rw [upd_ne nwp.symm]; exact ep
      rw [szAll_append] at bd
      have z1 : szAll [PyData.tuple (.str x1 :: es)] = szAll es + 2 := by simp [szAll, szD]; omega
      rw [z1] at bd
      have lm : (dictOf ms).length < sizeLine := by
        rw [dictOf, List.length_map]
        exact Nat.lt_of_le_of_lt (show ms.length ≤ 100000 by omega) (by decide)
      have f0 : ∀ k, (x1, k) ∈ ms → k = es.length → Func ms := fun _ _ _ => fn
      -- places.setdefault(part[0], many) != many
      refine ⟨fun σ' H' => σ' = [some (.ref a), some (.ref pl), some (.ref wl), some (.ref b), some (.int es.length)] ∧ H' wl = some (.lst us) ∧ Same H H' ∧ ∃ ms', H' pl = some (.dK (dictOf ms')) ∧ (∀ p, p ∈ ms' ↔ p ∈ ms ∨ p = (x1, es.length)) ∧ Func ms' ∧ ms'.length ≤ ms.length + 1, ?_, ?_⟩
      · refine ⟨_, rfl, pl, rfl, .inl ⟨_, .inl ep3⟩, _, rfl, b, _, 0, _, rfl, rfl, SqT.of (sm3 _ _ hb), atI_nat (j := 0) rfl, _, rfl, dictOf ms, Sum.inr x1, ep3, rfl, lm, fun y hy => ?_, fun hy => ?_⟩
        · -- the name is there
          obtain ⟨k, mem, rfl⟩ := val_some hy
          by_cases hk : k = es.length
          · subst hk
            refine ⟨_, rfl, rfl, _, rfl, iteNS rfl ⟨rfl, upd_same, sm3, ms, ep3, fun p => ⟨.inl, fun z => ?_⟩, fn, Nat.le_succ _⟩⟩
            rcases z with z | z
            · exact z
            · rw [z]
              exact mem
          · refine ⟨_, rfl, rfl, _, rfl, iteNT (fun z => hk ?_) (q .non _ sm3 (fun _ => rfl) fun z => ?_)⟩
            · have := V.int.inj z
              omega
            · exact absurd (iff.mp z) (todo_clash mem hk)
        · -- a new name
          have nk := val_none hy
          have npl' : H pl = none := npl
          refine ⟨_, rfl, rfl, _, rfl, iteNS rfl ⟨rfl, ?_, fun c o hc => ?_, ms ++ [(x1, es.length)], ?_, fun p => ?_, ?_, ?_⟩⟩
          · rw [upd_ne nwp, upd_same]
          · rw [upd_ne (ne_of_none hc npl')]
            exact sm3 c o hc
          · rw [upd_same, putK_new _ hy]
            simp [dictOf]
          · simp
          · rintro ⟨p1, p2⟩ hp ⟨r1, r2⟩ hr' e
            have e' : p1 = r1 := e
            subst e'
            simp only [List.mem_append, List.mem_singleton, Prod.mk.injEq] at hp hr'
            rcases hp with hp | ⟨g1, g2⟩
            · rcases hr' with hr' | ⟨g3, g4⟩
              · exact fn _ hp _ hr' rfl
              · subst g3
                exact absurd hp (nk _)
            · rcases hr' with hr' | ⟨g3, g4⟩
              · subst g1
                exact absurd hr' (nk _)
              · rw [g2, g4]
          · simp
      rintro σ' H' ⟨rfl, ew', sm', ms', ep', mem', fn', len'⟩
      -- waiting.extend(part[1:])
      refine ⟨_, rfl, .inl ⟨rfl, _, .inl (.inl ew')⟩, _, rfl, 1, rfl, b, _, rfl, SqT.of (sm' _ _ hb), fun z => ?_, fun _ c nc => ?_⟩
      · exfalso
        have := z.1
        rw [show HT.sIx (V.str x1 :: ws).length 0 (some 1) = min 1 (V.str x1 :: ws).length from HT.sIx_nat _ 0 1, List.length_cons] at this
        omega
      have nwc : wl ≠ c := fun e => by
        rw [← e, ew'] at nc
        cases nc
      have npc : pl ≠ c := fun e => by
        rw [← e, ep'] at nc
        cases nc
      have lus := dx'.length
      have lst := length_le_sz st
      refine ⟨wl, c, us, ws, rfl, rfl, by rw [upd_ne nwc]; exact ew', ?_, ?_, ?_⟩
      · rw [cut_one (by simp)]
        exact SqT.of upd_same
      · exact Nat.le_trans (show us.length + ws.length ≤ 100003 by omega) (by decide)
      · refine ⟨szAll (st ++ es), ?_, ⟨_, _, rfl⟩, us ++ ws, st ++ es, ms', rfl, upd_same, ?_, fun d o hd => ?_, DxAll.append dx' hw, ?_, ?_, fn', iff.trans (todo_step hf mem')⟩
        · rw [szAll_append, szAll_append, z1]
          omega
        · rw [upd_ne nwp.symm, upd_ne npc]
          exact ep'
        · rw [upd_ne (ne_of_none hd nwl'), upd_ne]
          · exact sm' d o hd
          · rintro rfl
            rw [sm' _ _ hd] at nc
            cases nc
        · rw [shortAll_append, sh.1]
          have z : x1.length ≤ 1000 ∧ shortAll es = true := by simpa [shortD, shortAll] using she
          simpa using z.2
        · rw [szAll_append]
          omega
end
end K01
/-! is_term, is_cell, check_term, make_term, make_cells. -/
namespace Kx
open PySem PySem.Spec PyProof.Rows L2
section
variable {X : Cx} {CX : CXT} {k : Nat} {f : Addr} {sp : Sp} {E : XK} {x : Str} {e : Expr} {es : List Expr} {t : TA} {p pos : Pos}
/-- f(e, ..), f a def with a star -/
theorem pe_callR (F : L2.FnR X.prog X.w X.K X.mg X.base CX k f sp) (hr : Room k X.A) (hg : Gl X x) (hm : X.mg x = some (.ref f)) (hk : PySem.W.keepIn X.K (.ref f) = true) (hx : Passes CX X E) (ha : PA X (e :: es) t) (hd : (x == ("__debug__" : Str)) = false := by decide)
    (he : starEach (e :: es) X.env = (false, eval e X.env) :: starEach es X.env := by rfl) (hpl : (backTo pos (starEach es X.env)).any (·.1) = false := by rfl) :
    PE X (.Call (.Name x p) (e :: es) [] pos) (tCall sp [] E t) := by
  refine ⟨fun pins s σ H Q I h => wpAny_Call_Name_kw (ld_glob I hg hm ?_ hd)⟩
  refine PySem.W.callWith_K (h₀ := X.base) I.ok.mod.kin hk (thn (ha.run pos pins s σ H _ I h) ?_) he hpl
  rintro us s1 ⟨vs, H1, I1, r, q⟩
  rw [List.append_nil] at q
  exact ⟨I1.kIn, wpAny_call (run_fnR F hr hx I1 r q)⟩
theorem pe_callR0 (F : L2.FnR X.prog X.w X.K X.mg X.base CX k f sp) (hr : Room k X.A) (hg : Gl X x) (hm : X.mg x = some (.ref f)) (hk : PySem.W.keepIn X.K (.ref f) = true) (hx : Passes CX X E) (hd : (x == ("__debug__" : Str)) = false := by decide) :
    PE X (.Call (.Name x p) [] [] pos) (tCall sp [] E tNil) := by
  refine ⟨fun pins s σ H Q I h => wpAny_Call_Name_kw (ld_glob I hg hm ?_ hd)⟩
  exact PySem.W.callWith_K0 I.kIn hk (wpAny_call (run_fnR F hr hx I .nil h))
end
end Kx
namespace K01
open PySem PySem.Spec PyProof.Rows L2 Kx
def cellD : PyData → Bool
  | .tuple ds => termD (.tuple ds) && decide (ds.length = 1)
  | _ => false
theorem cellD_eq {d : PyData} (h : termD d = true) : ∃ ds, d = .tuple ds := by
  cases d with
  | tuple ds => exact ⟨ds, rfl⟩
  | _ => simp [termD, formedD] at h
section
variable {P : Program} {w : World} {K : PySem.W.Frag} {mg : Str → Option Value} {base : Heap}
/-- x stands for d, of a bounded size -/
def Dz (K : PySem.W.Frag) (H : Hp) (x : V) (d : PyData) : Prop := Dx K H x d ∧ shortD d = true ∧ szD d ≤ 100000
theorem Dz.up {H H' : Hp} {x : V} {d : PyData} (h : Dz K H x d) (e : Same H H') : Dz K H' x d := ⟨h.1.up e, h.2⟩
def spTerm (K : PySem.W.Frag) : Sp := fun vs H Q _ => ∃ (x : V) (d : PyData), vs = [x] ∧ Dz K H x d ∧ ∀ H', Same H H' → Q (.bl (termD d)) H'
theorem ok_term (T : Tx K mg) : FnOk P w K mg base CX0 4 T.ais_term T.dis_term ["value"] (spTerm K) := by
  have nd := sc_is_term.nd
  have G := ok_joint (P := P) (w := w) (base := base) T
  refine T.fis_term.ok sc_is_term (fun vs H Q E h => ?_) (fun cdv A outer s H vs Q E hr h => ?_)
  · obtain ⟨x, d, rfl, _⟩ := h
    rfl
  · obtain ⟨x, d, rfl, ⟨hx, hs, hz⟩, q⟩ := h
    refine ⟨_, (pss_one (ps_ret (pe_cmpR op_notN (pe_call G (hr.mono (by decide)) (by rfl) T.gjoint_places T.fjoint_places.kp T.njoint_places .nil pass0 (pa_cons (pe_lst (pa_cons (pv 0) pa_nil)) pa_nil)) pe_non (nomark _)))), ?_⟩
    refine ⟨_, rfl, (by show 1 ≤ sizeLine; decide), fun p np => ?_⟩
    refine ⟨p, x, d, rfl, .inl (.inl upd_same), hx.up (same_new np), hs, hz, fun v H' sm n1 n2 => ⟨rfl, ?_⟩⟩
    have fin := q H' ((same_new np).trans sm)
    cases e : termD d with
    | false =>
      rw [e] at fin
      rw [n1 e]
      exact fin
    | true =>
      rw [e] at fin
      obtain ⟨c, ec⟩ := n2 e
      rw [ec]
      exact fin
def spCell (K : PySem.W.Frag) : Sp := fun vs H Q _ => ∃ (x : V) (d : PyData), vs = [x] ∧ Dz K H x d ∧ ∀ H', Same H H' → Q (.bl (cellD d)) H'
theorem ok_cell (T : Tx K mg) : FnOk P w K mg base CX0 5 T.ais_cell T.dis_cell ["value"] (spCell K) := by
  have nd := sc_is_cell.nd
  have G := ok_term (P := P) (w := w) (base := base) T
  refine T.fis_cell.ok sc_is_cell (fun vs H Q E h => ?_) (fun cdv A outer s H vs Q E hr h => ?_)
  · obtain ⟨x, d, rfl, _⟩ := h
    rfl
  · obtain ⟨x, d, rfl, hx, q⟩ := h
    refine ⟨_, (pss_one (ps_ret (pe_and (pe_call G (hr.mono (by decide)) (by rfl) T.gis_term T.fis_term.kp T.nis_term .nil pass0 (pa_cons (pv 0) pa_nil)) (pe_one (pe_cmpR op_eq (pe_callB call_len_seq (by rfl) T.b_len (by decide +kernel) (pa_cons (pv 0) pa_nil)) pe_int (nomark _)))))), ?_⟩
    refine ⟨_, rfl, x, d, rfl, hx, fun H' sm => ⟨_, rfl, ?_⟩⟩
    have fin := q H' sm
    cases e : termD d with
    | false =>
      refine iteF ?_
      have z : cellD d = false := by
        cases d with
        | tuple ds => simp [cellD, e]
        | _ => rfl
      rw [z] at fin
      exact fin
    | true =>
      obtain ⟨ds, rfl⟩ := cellD_eq e
      obtain ⟨hx, _⟩ := hx
      cases hx with
      | tup ha hs =>
        rename_i a xs
        have ln := hs.length
        refine iteT ⟨_, rfl, a, xs, rfl, .inr (SqT.of (sm _ _ ha)), rfl, ?_⟩
        have z : cellD (.tuple ds) = decide (V.int (xs.length : Int) = V.int 1) := by
          rw [ln]
          simp [cellD, e]
          omega
        rw [z] at fin
        exact fin
def spCheck (K : PySem.W.Frag) : Sp := fun vs H Q _ => ∃ (x : V) (d : PyData), vs = [x] ∧ Dz K H x d ∧ termD d = true ∧ ∀ H', Same H H' → Q .non H'
theorem ok_check (T : Tx K mg) : FnOk P w K mg base CX0 5 T.acheck_term T.dcheck_term ["value"] (spCheck K) := by
  have nd := sc_check_term.nd
  have G := ok_term (P := P) (w := w) (base := base) T
  refine T.fcheck_term.ok sc_check_term (fun vs H Q E h => ?_) (fun cdv A outer s H vs Q E hr h => ?_)
  · obtain ⟨x, d, rfl, _⟩ := h
    rfl
  · obtain ⟨x, d, rfl, hx, ht, q⟩ := h
    refine ⟨_, (pss_one (ps_if (pt_not (pt_val (pe_call G (hr.mono (by decide)) (by rfl) T.gis_term T.fis_term.kp T.nis_term .nil pass0 (pa_cons (pv 0) pa_nil)))) (pss_one ps_never) pss_nil)), ?_⟩
    refine ⟨_, rfl, x, d, rfl, hx, fun H' sm => ⟨_, rfl, ?_⟩⟩
    rw [ht]
    exact iteF (q H' sm)
end
end K01
/-! make_term, make_cells. -/
namespace K01
open PySem PySem.Spec PyProof.Rows L2 Kx
section
variable {P : Program} {w : World} {K : PySem.W.Frag} {mg : Str → Option Value} {base : Heap}
/-- the name, the tuple of the terms; the datum that they make is a term -/
def spMakeB (K : PySem.W.Frag) : Sp := fun vs H Q _ => ∃ (x : Str) (a : Addr) (ws : List V) (ds : List PyData), vs = [.str x, .ref a] ∧ H a = some (.tup ws) ∧ DxAll K H ws ds ∧ shortD (.tuple (.str x :: ds)) = true ∧ szD (.tuple (.str x :: ds)) ≤ 100000 ∧ termD (.tuple (.str x :: ds)) = true ∧
  ∀ p H', Same H H' → H p = none → H' p = some (.tup (.str x :: ws)) → Q (.ref p) H'
theorem term_name {x : Str} {ds : List PyData} (h : termD (.tuple (.str x :: ds)) = true) : isNm x = true ∧ ds.length ≤ 3 := by
  simp [termD, formedD, nameD] at h
  exact ⟨h.1.1.2, h.1.1.1⟩
def spMake (K : PySem.W.Frag) : Sp := fun vs H Q E => ∃ ws rest, vs = ws ++ rest ∧ ws.length = 1 ∧ rest.length ≤ sizeLine ∧ ∀ p, H p = none → spMakeB K (ws ++ [V.ref p]) (upd H p (.tup rest)) Q E
theorem ok_make (T : Tx K mg) : L2.FnR P w K mg base CX0 6 T.amake_term (spMake K) := by
  have nd := sc_make_term.nd
  have G1 := ok_name (P := P) (w := w) (base := base) T
  have G2 := ok_check (P := P) (w := w) (base := base) T
  obtain ⟨oc, od, kV, doc, pm, an, cdv, ct, osl, e, lk, hcd⟩ := T.fmake_term.ex
  rw [e] at lk
  refine StX.fn_star (ps := ["name"]) (pv := "terms") (sp := spMakeB K) lk hcd sc_make_term StX.cxUp_none (fun us rest h => ?_) (fun A outer s H vs Q E hr h => ?_)
  · match us, h with
    | [u], _ => cases rest <;> rfl
  obtain ⟨x, a, ws, ds, rfl, ha, hw, hs, hz, ht, q⟩ := h
  obtain ⟨hn, h3⟩ := term_name ht
  refine ⟨_, PSs.nox (pss_cons (ps_if (pt_not (pt_val (pe_call G1 (hr.mono (by decide)) (by rfl) T.gis_name T.fis_name.kp T.nis_name .nil pass0 (pa_cons (pv 0) pa_nil)))) (pss_one ps_never) pss_nil)
      (pss_cons (ps_set (i := 2) nd rfl (.inl rfl) (pe_tup (pa_cons (pv 0) (StX.pa_star (pv 1) pa_nil))))
      (pss_cons (ps_expr (pe_call G2 (hr.mono (by decide)) (by rfl) T.gcheck_term T.fcheck_term.kp T.ncheck_term .nil pass0 (pa_cons (pv 2) pa_nil)))
      (pss_one (ps_ret (pv 2)))))), ?_⟩
  have hs' : x.length ≤ 1000 ∧ shortAll ds = true := by simpa [shortD, shortAll] using hs
  have lw := hw.length
  refine ⟨_, rfl, .str x, .str x, rfl, .str x, fun y e => ?_, _, rfl, ?_⟩
  · cases e
    exact Nat.le_trans hs'.1 (by decide)
  show if (!isNm x) = true then _ else _
  rw [hn]
  refine iteF ⟨_, rfl, _, rfl, a, ws, rfl, .inl (SqT.of ha), ?_, fun p np => ?_⟩
  · rw [List.append_nil, List.length_cons]
    exact Nat.le_trans (show ws.length + 1 ≤ 4 by omega) (by decide)
  rw [List.append_nil]
  have sm := same_new (o := .tup (.str x :: ws)) np
  refine ⟨_, rfl, _, _, rfl, ⟨.tup upd_same (.cons (.str x) (hw.up sm)), hs, hz⟩, ht, fun H' sm' => ⟨_, rfl, q p H' (sm.trans sm') np (sm' _ _ upd_same)⟩⟩
def spCellsB (K : PySem.W.Frag) : Sp := fun vs H Q _ => ∃ (a : Addr) (ns : List Str), vs = [.ref a] ∧ H a = some (.tup (ns.map V.str)) ∧ (∀ x, x ∈ ns → isNm x = true) ∧ ns.length ≤ 10 ∧
  ∀ p H' (cs : List Addr), Same H H' → H p = none → cs.length = ns.length → H' p = some (.tup (cs.map V.ref)) → (∀ (i : Nat) c x, cs[i]? = some c → ns[i]? = some x → H' c = some (.tup [.str x])) → Q (.ref p) H'
def spCells (K : PySem.W.Frag) : Sp := fun vs H Q E => ∃ ws rest, vs = ws ++ rest ∧ ws.length = 0 ∧ rest.length ≤ sizeLine ∧ ∀ p, H p = none → spCellsB K (ws ++ [V.ref p]) (upd H p (.tup rest)) Q E
theorem ok_cells (T : Tx K mg) : L2.FnR P w K mg base CX0 2 T.amake_cells (spCells K) := by
  have nd := sc_make_cells.nd
  have G1 := ok_name (P := P) (w := w) (base := base) T
  obtain ⟨oc, od, kV, doc, pm, an, cdv, ct, osl, e, lk, hcd⟩ := T.fmake_cells.ex
  rw [e] at lk
  refine StX.fn_star (ps := []) (pv := "names") (sp := spCellsB K) lk hcd sc_make_cells StX.cxUp_none (fun us rest h => ?_) (fun A outer s H vs Q E hr h => ?_)
  · cases us with
    | nil => cases rest <;> rfl
    | cons => cases h
  obtain ⟨a, ns, rfl, ha, hn, h10, q⟩ := h
  refine ⟨_, PSs.nox (pss_cons (ps_for PassesOwn.never rfl (pi_tup (pv 0)) (pg_name (i := 1) nd rfl (.inl rfl)) (pss_one (ps_if (pt_not (pt_val (pe_call G1 (hr.mono (by decide)) (by rfl) T.gis_name T.fis_name.kp T.nis_name .nil pass0 (pa_cons (pv 1) pa_nil)))) (pss_one ps_never) pss_nil)))
      (pss_one (ps_ret (pe_callTy call_tuple_of (by rfl) T.b_tuple (by decide +kernel) (pa_cons (pe_lc (own := [("name", 1)]) (g := (gName 1)) (tt := tYes) (by rfl) nd (pi_tup (pv 0)) (blkOk_by (own := [("name", 1)]) (N := N_make_cells) (sc := defScope s_make_cells) (by decide +kernel)) (fun _ _ _ _ _ => pg_name (i := 1) nd rfl (.inl rfl)) (fun _ _ _ _ _ => pts_nil) (fun _ _ _ _ _ => (pe_tup (pa_cons (pv 1) pa_nil)))) pa_nil))))), ?_⟩
  refine ⟨_, rfl, a, rfl, ⟨_, SqT.of ha⟩, for_tup (K := K) (a := a) (xs := ns.map V.str) (fun i σ H2 => H2 = H ∧ ∃ y, σ = [some (.ref a), y]) ⟨rfl, none, rfl⟩ (fun i σ H2 _ h => by rw [h.1]; exact SqT.of ha) ?_ ?_⟩
  · rintro i y σ H2 hi ⟨rfl, z, rfl⟩
    rw [List.getElem?_map] at hi
    obtain ⟨x, hx, rfl⟩ := Option.map_eq_some_iff.mp hi
    have nm := hn x (List.mem_of_getElem? hx)
    refine ⟨_, rfl, .str x, .str x, rfl, .str x, fun y e => ?_, _, rfl, ?_⟩
    · cases e
      simp [isNm] at nm
      exact Nat.le_trans nm.1.2 (by decide)
    · show if (!isNm x) = true then _ else _
      rw [nm]
      exact iteF ⟨rfl, _, rfl⟩
  rintro σ H2 ⟨rfl, y, rfl⟩
  refine ⟨_, rfl, a, rfl, ⟨_, SqT.of ha⟩, fun D nD => ?_⟩
  have neD : ∀ {H3 : Hp}, Same H2 H3 → ∀ b o, H2 b = some o → b ≠ D := fun _ b o hb => ne_of_none hb nD
  refine lc_tup (K := K) (a := a) (xs := ns.map V.str) (fun i H3 => (∀ b o, H2 b = some o → H3 b = some o) ∧ ∃ cs : List Addr, cs.length = i ∧ H3 D = some (.lst (cs.map V.ref)) ∧ ∀ (j : Nat) c x, cs[j]? = some c → ns[j]? = some x → H3 c = some (.tup [.str x]))
    ⟨same_new nD, [], rfl, upd_same, fun j c x h => (by simp at h)⟩ (fun i H3 _ h => SqT.of (h.1 _ _ ha)) ?_ ?_
  · rintro i y H3 hi ⟨sm, cs, rfl, eD, hc⟩
    rw [List.getElem?_map] at hi
    obtain ⟨x, hx, rfl⟩ := Option.map_eq_some_iff.mp hi
    refine ⟨rfl, (iteT (B := False) ?_ : if true = true then _ else False)⟩
    refine ⟨_, rfl, (by show 1 ≤ sizeLine; decide), fun p np => ?_⟩
    have npD : D ≠ p := ne_of_none eD np
    have lt : cs.length < ns.length := (List.getElem?_eq_some_iff.mp hx).1
    refine ⟨cs.map V.ref, by rw [upd_ne npD]; exact eD, ?_, fun b o hb => ?_, cs ++ [p], by simp, ?_, fun j c z hj hz => ?_⟩
    · rw [List.length_map]
      exact small1000 (by omega)
    · rw [upd_ne (ne_of_none hb nD)]
      exact same_new np b o (sm b o hb)
    · rw [upd_same, List.map_append]
      rfl
    · rcases Nat.lt_trichotomy j cs.length with h | h | h
      · rw [List.getElem?_append_left h] at hj
        have hcj := hc j c z hj hz
        rw [upd_ne (ne_of hcj eD (fun e => nomatch e)), upd_ne (ne_of_none hcj np)]
        exact hcj
      · subst h
        rw [List.getElem?_append_right (Nat.le_refl _), Nat.sub_self] at hj
        cases hj
        rw [hx] at hz
        cases hz
        rw [upd_ne npD.symm, upd_same]
      · rw [List.getElem?_eq_none (by simp; omega)] at hj
        cases hj
  · rintro H3 ⟨sm, cs, hl, eD, hc⟩
    rw [List.length_map] at hl
    refine ⟨D, _, rfl, .inl ⟨.inl (.inl eD), fun p np => ?_⟩⟩
    refine q p _ cs (fun b o hb => same_new np b o (sm b o hb)) ?_ hl upd_same fun i c x hi hx => ?_
    · cases e : H2 p with
      | none => rfl
      | some o =>
        rw [sm _ _ e] at np
        cases np
    · exact same_new np _ _ (hc i c x hi hx)
end
end K01
/-! The parts of a term, listed. -/
namespace K01
open PySem PySem.Spec PyProof.Rows L2 Kx
abbrev Sub := Addr × Str × List V
def rowOf (z : Sub) : NK := (z.2.1, z.2.2.length)
/-- a list of the parts zs at f -/
def SubsAt (H : Hp) (f : Addr) (zs : List Sub) : Prop := H f = some (.lst (zs.map fun z => V.ref z.1)) ∧ ∀ z, z ∈ zs → H z.1 = some (.tup (.str z.2.1 :: z.2.2))
theorem SubsAt.up {H H' : Hp} {f : Addr} {zs : List Sub} (h : SubsAt H f zs) (e : Same H H') : SubsAt H' f zs := ⟨e _ _ h.1, fun z hz => e _ _ (h.2 z hz)⟩
theorem formed_shape {d : PyData} (h : formedD d = true) : ∃ x ds, d = .tuple (.str x :: ds) ∧ ds.length ≤ 3 ∧ isNm x = true ∧ formedAll ds = true := by
  cases d with
  | tuple ds =>
    cases ds with
    | nil => cases h
    | cons d0 ds =>
      simp only [formedD, Bool.and_eq_true, decide_eq_true_eq] at h
      cases d0 with
      | str z => exact ⟨z, ds, rfl, h.1.1, h.1.2, h.2⟩
      | _ => cases h.1.2
  | _ => cases h
theorem formedAll_get : ∀ {ds : List PyData} {i : Nat} {d : PyData}, formedAll ds = true → ds[i]? = some d → formedD d = true
  | [], _, _, _, h => by simp at h
  | x :: ds, 0, d, hf, h => by
    simp at h
    rw [formedAll, Bool.and_eq_true, h] at hf
    exact hf.1
  | x :: ds, i + 1, d, hf, h => by
    rw [formedAll, Bool.and_eq_true] at hf
    exact formedAll_get hf.2 (by simpa using h)
theorem depthAll_get : ∀ {ds : List PyData} {i : Nat} {d : PyData}, ds[i]? = some d → d.depth ≤ PyData.depthAll ds
  | [], _, _, h => by simp at h
  | x :: ds, 0, d, h => by
    simp at h
    rw [h, PyData.depthAll]
    omega
  | x :: ds, i + 1, d, h => by
    have := depthAll_get (ds := ds) (i := i) (d := d) (by simpa using h)
    rw [PyData.depthAll]
    omega
theorem rowsAll_take : ∀ {ds : List PyData} {i : Nat} {d : PyData}, ds[i]? = some d → rowsAll (ds.take (i + 1)) = rowsAll (ds.take i) ++ rowsD d
  | ds, i, d, h => by
    rw [List.take_add_one, h, rowsAll_append]
    simp [rowsAll]
theorem rowsAll_take_le : ∀ (ds : List PyData) (i : Nat), (rowsAll (ds.take i)).length ≤ (rowsAll ds).length
  | ds, i => by
    have e := List.take_append_drop i ds
    have z : rowsAll (ds.take i ++ ds.drop i) = rowsAll ds := by rw [e]
    rw [rowsAll_append] at z
    rw [← z, List.length_append]
    omega
section
variable {P : Program} {w : World} {K : PySem.W.Frag} {mg : Str → Option Value} {base : Heap}
def spBelow (K : PySem.W.Frag) (n : Nat) : Sp := fun vs H Q _ => ∃ (x : V) (d : PyData), vs = [x] ∧ Dx K H x d ∧ formedD d = true ∧ d.depth ≤ n ∧ (rowsD d).length ≤ 1000 ∧
  ∀ p H' (zs : List Sub), Same H H' → H p = none → SubsAt H' p zs → (zs.map rowOf).Perm (rowsD d) → Q (.ref p) H'
theorem ok_below (T : Tx K mg) : ∀ n, FnOk P w K mg base CX0 (n + 1) T.a_law_below T.d_law_below ["term"] (spBelow K n)
  | 0 => by
    refine T.f_law_below.ok sc__law_below (fun vs H Q E h => ?_) (fun cdv A outer s H vs Q E hr h => ?_)
    · obtain ⟨x, d, rfl, _⟩ := h
      rfl
    · exfalso
      obtain ⟨x, d, rfl, hx, hf, hd, _⟩ := h
      obtain ⟨z, ds, rfl, _⟩ := formed_shape hf
      simp [PyData.depth] at hd
  | n + 1 => by
    have nd := sc__law_below.nd
    have G := ok_below T n
    refine T.f_law_below.ok sc__law_below (fun vs H Q E h => ?_) (fun cdv A outer s H vs Q E hr h => ?_)
    · obtain ⟨x, d, rfl, _⟩ := h
      rfl
    · obtain ⟨x, d, rfl, hx, hf, hd, hl, q⟩ := h
      obtain ⟨nm, ds, rfl, l3, hnm, hfa⟩ := formed_shape hf
      cases hx with
      | tup ha hs =>
      rename_i a xs
      cases hs with
      | cons h0 hw =>
      rename_i v0 ws
      cases h0
      have lw := hw.length
      have hdd : PyData.depthAll ds ≤ n := by
        simp only [PyData.depth, PyData.depthAll] at hd
        omega
      refine ⟨_, (pss_cons (ps_set (i := 1) nd rfl (.inl rfl) (pe_lst pa_nil))
      (pss_cons (ps_for PassesOwn.never rfl (pi_tup (pe_slice sl_tupA (pv 0) (po_some pe_int) po_none)) (pg_name (i := 2) nd rfl (.inl rfl)) (pss_one (ps_set (i := 1) nd rfl (.inl rfl) (pe_op op_cat (pv 1) (pe_call G (hr.mono (by omega)) (by rfl) T.g_law_below T.f_law_below.kp T.n_law_below .nil pass0 (pa_cons (pv 2) pa_nil))))))
      (pss_one (ps_ret (pe_op op_cat (pv 1) (pe_lst (pa_cons (pv 0) pa_nil))))))), ?_⟩
      refine ⟨Nat.zero_le _, fun f nf => ?_⟩
      have s1 : Same H (upd H f (.lst [])) := same_new nf
      refine ⟨_, rfl, 1, rfl, a, _, rfl, SqT.of (s1 _ _ ha), fun z => ?_, fun _ c nc => ?_⟩
      · exfalso
        have := z.1
        rw [show HT.sIx (V.str nm :: ws).length 0 (some 1) = min 1 (V.str nm :: ws).length from HT.sIx_nat _ 0 1, List.length_cons] at this
        omega
      rw [cut_one (by simp), List.drop_one, List.tail_cons]
      have s2 : Same H (upd (upd H f (.lst [])) c (.tup ws)) := s1.trans (same_new nc)
      have nfc : f ≠ c := fun e => by
        rw [← e, upd_same] at nc
        cases nc
      refine ⟨c, rfl, ⟨_, SqT.of upd_same⟩, for_tup (K := K) (a := c) (xs := ws) (fun i σ H3 => Same H H3 ∧ H3 c = some (.tup ws) ∧ ∃ (g : Addr) (zs : List Sub) (y : Option V), σ = [some (.ref a), some (.ref g), y] ∧ SubsAt H3 g zs ∧ (zs.map rowOf).Perm (rowsAll (ds.take i)))
        ⟨s2, upd_same, f, [], none, rfl, ⟨by rw [upd_ne nfc, upd_same]; rfl, fun z hz => (nomatch hz)⟩, by simp [rowsAll]⟩ (fun i σ H3 _ h => SqT.of h.2.1) ?_ ?_⟩
      · rintro i y σ H3 hi ⟨sm, ec, g, zs, y0, rfl, sa, pm⟩
        have lt : i < ds.length := by
          rw [← lw]
          exact (List.getElem?_eq_some_iff.mp hi).1
        obtain ⟨v, hv, hx⟩ := hw.get (List.getElem?_eq_getElem lt)
        rw [hi] at hv
        cases hv
        have gd := List.getElem?_eq_getElem lt
        have le1 := rowsAll_take_le ds i
        have le2 := rowsAll_take_le ds (i + 1)
        rw [rowsAll_take gd, List.length_append] at le2
        have lr : (rowsD (.tuple (.str nm :: ds))).length = (rowsAll ds).length + 1 := by simp [rowsD]
        rw [lr] at hl
        have lz : zs.length = (rowsAll (ds.take i)).length := by rw [← pm.length_eq, List.length_map]
        refine ⟨_, rfl, _, rfl, _, _, rfl, hx.up sm, formedAll_get hfa gd, Nat.le_trans (depthAll_get gd) hdd, by omega, fun p H4 zs2 sm4 np sa2 pm2 => ?_⟩
        have lz2 : zs2.length = (rowsD ds[i]).length := by rw [← pm2.length_eq, List.length_map]
        have sa4 := sa.up sm4
        refine ⟨g, p, _, _, rfl, rfl, sa4.1, sa2.1, ?_, fun e ne => ?_⟩
        · rw [List.length_map, List.length_map]
          exact Nat.le_trans (show zs.length + zs2.length ≤ 1000 by omega) (by decide)
        · have sme := same_new (o := .lst ((zs.map fun z => V.ref z.1) ++ zs2.map fun z => V.ref z.1)) ne
          refine ⟨sm.trans (sm4.trans sme), sme _ _ (sm4 _ _ ec), e, zs ++ zs2, _, rfl, ⟨by rw [upd_same, List.map_append], fun z hz => ?_⟩, ?_⟩
          · rcases List.mem_append.mp hz with h | h
            · exact sme _ _ (sa4.2 z h)
            · exact sme _ _ (sa2.2 z h)
          · rw [rowsAll_take gd, List.map_append]
            exact pm.append pm2
      · rintro σ H3 ⟨sm, ec, g, zs, y, rfl, sa, pm⟩
        rw [lw, List.take_length] at pm
        have lz : zs.length = (rowsAll ds).length := by rw [← pm.length_eq, List.length_map]
        have lr : (rowsD (.tuple (.str nm :: ds))).length = (rowsAll ds).length + 1 := by simp [rowsD]
        refine ⟨_, rfl, _, rfl, (by show 1 ≤ sizeLine; decide), fun e ne => ?_⟩
        have sme := same_new (o := .lst [V.ref a]) ne
        refine ⟨g, e, _, _, rfl, rfl, (sa.up sme).1, upd_same, ?_, fun p np => ?_⟩
        · rw [List.length_map]
          exact Nat.le_trans (show zs.length + 1 ≤ 1001 by omega) (by decide)
        have smp := same_new (o := .lst ((zs.map fun z => V.ref z.1) ++ [V.ref a])) np
        have smA := sm.trans (sme.trans smp)
        refine q p _ (zs ++ [(a, nm, ws)]) smA ?_ ⟨by rw [upd_same, List.map_append]; rfl, fun z hz => ?_⟩ ?_
        · exact (sm.trans sme).free np
        · rcases List.mem_append.mp hz with h | h
          · exact (sa.up (sme.trans smp)).2 z h
          · rw [List.mem_singleton.mp h]
            exact smA _ _ ha
        · rw [List.map_append, rowsD]
          refine (pm.append_right _).trans ?_
          have e1 : [(a, nm, ws)].map rowOf = [(headD (.str nm), ds.length)] := by simp [rowOf, headD, lw]
          rw [e1]
          exact List.perm_append_singleton _ _
end
end K01
/-! The law's own words for names and terms. -/
namespace Kx
open PySem PySem.Spec PyProof.Rows L2
/-- a comprehension over the signs of a text -/
theorem lc_signs {z : Str} {g : TG} {tt : TT} {te : TE} {vs : List Nat} {σ : L2.St} {H1 : Hp} {D : Addr} {Qd : Hp → Prop} (Pv : Nat → Hp → Prop) (h0 : Pv 0 (upd H1 D (.lst [])))
    (hs : ∀ i c H, z.cps[i]? = some c → Pv i H → g (.str ⟨#[c]⟩) (wipe σ vs) H fun σ2 H2 => wipe σ2 vs = wipe σ vs ∧ tt σ2 H2 fun b H3 =>
      if b = true then te σ2 H3 fun y H4 => ∃ acc, H4 D = some (.lst acc) ∧ acc.length < sizeLine ∧ Pv (i + 1) (upd H4 D (.lst (acc ++ [y]))) else Pv (i + 1) H3) (hd : ∀ H, Pv z.cps.size H → Qd H) :
    ∃ W : Nat → Nat → Hp → Prop, (∃ m, W 0 m (upd H1 D (.lst []))) ∧ ∀ i m H, W i m H →
      ((Its z).stop i H ∧ Qd H) ∨ ((Its z).go i H ∧ ∃ Nx : Hp → Prop, (∀ H', Nx H' → ∃ m', m' < m ∧ W (i + 1) m' H') ∧ ∀ x H', (Its z).yld i H x H' → g x (wipe σ vs) H' fun σ2 H2 => wipe σ2 vs = wipe σ vs ∧ tt σ2 H2 fun b H3 =>
        if b = true then te σ2 H3 fun y H4 => ∃ acc, H4 D = some (.lst acc) ∧ acc.length < sizeLine ∧ Nx (upd H4 D (.lst (acc ++ [y]))) else Nx H3) := by
  refine ⟨fun i m H => m = z.cps.size - i ∧ i ≤ z.cps.size ∧ Pv i H, ⟨z.cps.size, rfl, Nat.zero_le _, h0⟩, ?_⟩
  rintro i m H ⟨rfl, hi, p⟩
  by_cases lt : i < z.cps.size
  · refine .inr ⟨lt, Pv (i + 1), fun H' p' => ⟨z.cps.size - (i + 1), by omega, rfl, lt, p'⟩, ?_⟩
    rintro x H' ⟨rfl, c, hc, rfl⟩
    exact hs i c _ hc p
  · obtain rfl : i = z.cps.size := by omega
    exact .inl ⟨Nat.le_refl _, hd H p⟩
end Kx
namespace K01
open PySem PySem.Spec PyProof.Rows L2 Kx
theorem letters_list : ∀ c, c ∈ (Str.ofString "abcdefghijklmnopqrstuvwxyz").cps.toList ↔ letter c = true := by
  have e : (Str.ofString "abcdefghijklmnopqrstuvwxyz").cps.toList = (List.range 26).map fun i => 97 + i := by decide +kernel
  intro c
  rw [e, List.mem_map]
  unfold letter
  simp only [List.mem_range, Bool.and_eq_true, decide_eq_true_eq]
  constructor
  · rintro ⟨i, hi, rfl⟩
    omega
  · rintro ⟨h1, h2⟩
    exact ⟨c - 97, by omega, by omega⟩
section
variable {P : Program} {w : World} {K : PySem.W.Frag} {mg : Str → Option Value} {base : Heap}
def spLname (K : PySem.W.Frag) : Sp := fun vs H Q _ => ∃ (x : V) (d : PyData), vs = [x] ∧ Dx K H x d ∧ shortD d = true ∧ ∀ H', Same H H' → Q (.bl (nameD d)) H'
theorem ok_lname (T : Tx K mg) : FnOk P w K mg base CX0 1 T.a_law_is_name T.d_law_is_name ["thing"] (spLname K) := by
  have nd := sc__law_is_name.nd
  refine T.f_law_is_name.ok sc__law_is_name (fun vs H Q E h => ?_) (fun cdv A outer s H vs Q E hr h => ?_)
  · obtain ⟨x, d, rfl, _⟩ := h
    rfl
  · obtain ⟨x, d, rfl, hx, hs, q⟩ := h
    refine ⟨_, (pss_cons (ps_if (PW.pt (pw_or (pt_not (pt_val (pe_callB call_isi (by rfl) T.b_isinstance (by decide +kernel) (pa_cons (pv 0) (pa_cons (pe_bltn (v := .ty "str") (by rfl) T.b_str (by decide +kernel) rfl) pa_nil))))) (pw_or1 (pt_not (pt_chain op_le op_le pe_int (pe_callB call_len_str (by rfl) T.b_len (by decide +kernel) (pa_cons (pv 0) pa_nil)) pe_int))))) (pss_one (ps_ret pe_bl)) pss_nil)
      (pss_one (ps_ret (pe_cmpR (op_eqNil hr.units) (pe_lc (own := [("sign", 1)]) (g := (gName 1)) (by rfl) nd (pi_str (pv 0)) (blkOk_by (own := [("sign", 1)]) (N := N__law_is_name) (sc := defScope s__law_is_name) (by decide +kernel)) (fun _ _ _ _ _ => pg_name (i := 1) nd rfl (.inl rfl)) (fun _ _ _ _ _ => (pts_one (pt_cmpR op_notIn_sign (pv 1) pe_str (by rfl)))) (fun _ _ _ _ _ => (pv 1))) (pe_lst pa_nil) (nomark _))))), ?_⟩
    refine ⟨x, rfl, x, .ty "str", _, _, _, rfl, .ty _, hx.ty, kit_ty (kit_str d), _, rfl, ?_⟩
    have no : nameD d = false → Q (.bl false) H := fun e => by
      have := q H (Same.refl H)
      rw [e] at this
      exact this
    cases hx with
    | str z =>
      have z1 : z.length ≤ 1000 := by simpa [shortD] using hs
      have z2 : z.length ≤ sizeLine := Nat.le_trans z1 (by decide)
      have main : (decide (1 ≤ z.length) && decide (z.length ≤ 8)) = true → (tRet (tOp (rNilL K fun b => b) (tLc (iStr (tVar 0)) (gName 1) (tTest (tOp (fun x y H Q => ∃ (c : Nat) (z : Str), x = .str ⟨#[c]⟩ ∧ y = .str z ∧ Q (.bl (!decide (c ∈ z.cps.toList))) H) (tVar 1) (tC (.str "abcdefghijklmnopqrstuvwxyz")))) (tVar 1) [1]) (tLst tNil))) { nx := fun _ H' => Q .non H', rt := Q } (L2.start N__law_is_name [V.str z]) H := by
        intro h8
        refine ⟨_, rfl, z, rfl, fun D nD => lc_signs (fun i H2 => ∃ acc : List V, H2 = upd H D (.lst acc) ∧ acc.length ≤ i ∧ (acc = [] ↔ ∀ j c, j < i → z.cps[j]? = some c → letter c = true)) ⟨[], rfl, Nat.le_refl _, by simp⟩ ?_ ?_⟩
        · rintro i c H2 hc ⟨acc, rfl, la, iff⟩
          have ic : i < z.cps.size := (Array.getElem?_eq_some_iff.mp hc).1
          have iz : i < 1000 := Nat.lt_of_lt_of_le ic z1
          refine ⟨rfl, _, rfl, c, _, rfl, rfl, _, rfl, ?_⟩
          by_cases hl : letter c = true
          · rw [decide_eq_true ((letters_list c).mpr hl)]
            refine iteF ⟨acc, rfl, by omega, ?_⟩
            rw [iff]
            constructor
            · intro h j d hj hd
              by_cases e : j = i
              · subst e
                rw [hc] at hd
                cases hd
                exact hl
              · exact h j d (by omega) hd
            · exact fun h j d hj hd => h j d (by omega) hd
          · rw [decide_eq_false (fun e => hl ((letters_list c).mp e))]
            refine iteT ⟨_, rfl, acc, upd_same, small1000 (by omega), acc ++ [_], upd_upd, by simp; omega, ?_⟩
            constructor
            · intro h
              simp at h
            · intro h
              exact absurd (h i c (by omega) hc) hl
        · rintro H2 ⟨acc, rfl, la, iff⟩
          refine ⟨Nat.zero_le _, fun e ne => ⟨D, e, acc, rfl, rfl, ?_, .inl (.inl upd_same), ?_⟩⟩
          · exact .inl (.inl (by rw [upd_ne (ne_of_none upd_same ne), upd_same]))
          · have fin := q _ ((same_new nD).trans (same_new (o := .lst []) ne))
            have e1 : nameD (.str z) = acc.isEmpty := by
              have e2 : nameD (.str z) = z.cps.all letter := by
                show (decide (1 ≤ z.length) && decide (z.length ≤ 8) && z.cps.all letter) = _
                rw [h8, Bool.true_and]
              rw [e2, Bool.eq_iff_iff, Array.all_eq_true, List.isEmpty_iff, iff]
              constructor
              · intro h j c hj hc
                have := h j hj
                rw [Array.getElem?_eq_getElem hj] at hc
                cases hc
                exact this
              · exact fun h i hi => h i _ hi (Array.getElem?_eq_getElem hi)
            rw [e1] at fin
            exact fin
      have bad : (decide (1 ≤ z.length) && decide (z.length ≤ 8)) = false → Q (.bl false) H := fun e => no (by
        show (decide (1 ≤ z.length) && decide (z.length ≤ 8) && z.cps.all letter) = _
        rw [e, Bool.false_and])
      refine iteF ⟨_, rfl, z, rfl, z2, 1, _, rfl, rfl, _, rfl, ite2 (fun h1 => ?_) (fun h1 => ?_)⟩
      · have l1 : 1 ≤ z.length := by
          have := of_decide_eq_true h1
          omega
        refine ⟨_, 8, rfl, rfl, _, rfl, ?_⟩
        by_cases h8 : z.length ≤ 8
        · rw [decide_eq_true (show (z.length : Int) ≤ 8 by omega)]
          exact iteF (main (by simp [l1, h8]))
        · rw [decide_eq_false (show ¬ (z.length : Int) ≤ 8 by omega)]
          exact iteT (bad (by simp [h8]))
      · have l1 : ¬ 1 ≤ z.length := fun e => h1 (decide_eq_true (by omega))
        exact ⟨_, rfl, iteT (bad (by simp [l1]))⟩
    | non => exact iteT (iteT (no rfl))
    | bl b => exact iteT (iteT (no rfl))
    | int i => exact iteT (iteT (no rfl))
    | lst _ _ => exact iteT (iteT (no rfl))
    | tup _ _ => exact iteT (iteT (no rfl))
    | dic _ _ => exact iteT (iteT (no rfl))
end
end K01
/-! The law's own word for forms. -/
namespace K01
open PySem PySem.Spec PyProof.Rows L2 Kx
theorem shortAll_get : ∀ {ds : List PyData} {i : Nat} {d : PyData}, shortAll ds = true → ds[i]? = some d → shortD d = true
  | [], _, _, _, h => by simp at h
  | x :: ds, 0, d, hf, h => by
    simp at h
    rw [shortAll, Bool.and_eq_true, h] at hf
    exact hf.1
  | x :: ds, i + 1, d, hf, h => by
    rw [shortAll, Bool.and_eq_true] at hf
    exact shortAll_get hf.2 (by simpa using h)
theorem formedAll_iff : ∀ {ds : List PyData}, formedAll ds = true ↔ ∀ (i : Nat) d, ds[i]? = some d → formedD d = true
  | [] => by simp [formedAll]
  | x :: ds => by
    rw [formedAll, Bool.and_eq_true, formedAll_iff]
    constructor
    · rintro ⟨h1, h2⟩ i d hi
      cases i with
      | zero =>
        simp at hi
        rw [← hi]
        exact h1
      | succ i => exact h2 i d (by simpa using hi)
    · intro h
      exact ⟨h 0 x rfl, fun i d hi => h (i + 1) d (by simpa using hi)⟩
section
variable {P : Program} {w : World} {K : PySem.W.Frag} {mg : Str → Option Value} {base : Heap}
def spFormed (K : PySem.W.Frag) (n : Nat) : Sp := fun vs H Q _ => ∃ (x : V) (d : PyData), vs = [x] ∧ Dx K H x d ∧ shortD d = true ∧ d.depth < n ∧ ∀ H', Same H H' → Q (.bl (formedD d)) H'
theorem ok_formed (T : Tx K mg) : ∀ n, FnOk P w K mg base CX0 (n + 2) T.a_law_is_formed T.d_law_is_formed ["thing"] (spFormed K n)
  | 0 => by
    refine T.f_law_is_formed.ok sc__law_is_formed (fun vs H Q E h => ?_) (fun cdv A outer s H vs Q E hr h => ?_)
    · obtain ⟨x, d, rfl, _⟩ := h
      rfl
    · obtain ⟨x, d, rfl, _, _, h0, _⟩ := h
      exact absurd h0 (Nat.not_lt_zero _)
  | n + 1 => by
    have nd := sc__law_is_formed.nd
    have G := ok_formed T n
    have G1 := ok_lname (P := P) (w := w) (base := base) T
    refine T.f_law_is_formed.ok sc__law_is_formed (fun vs H Q E h => ?_) (fun cdv A outer s H vs Q E hr h => ?_)
    · obtain ⟨x, d, rfl, _⟩ := h
      rfl
    · obtain ⟨x, d, rfl, hx, hs, hd, q⟩ := h
      refine ⟨_, (pss_cons (ps_if (PW.pt (pw_or (pt_not (pt_val (pe_callB call_isi (by rfl) T.b_isinstance (by decide +kernel) (pa_cons (pv 0) (pa_cons (pe_bltn (v := .ty "tuple") (by rfl) T.b_tuple (by decide +kernel) rfl) pa_nil))))) (pw_or (pt_not (pt_chain op_le op_le pe_int (pe_callB call_len_seq (by rfl) T.b_len (by decide +kernel) (pa_cons (pv 0) pa_nil)) pe_int)) (pw_or1 (pt_not (pt_val (pe_call G1 (hr.mono (by omega)) (by rfl) T.g_law_is_name T.f_law_is_name.kp T.n_law_is_name .nil pass0 (pa_cons (pe_ix ix_tup (pv 0) pe_int (fun _ _ => rfl)) pa_nil)))))))) (pss_one (ps_ret pe_bl)) pss_nil)
      (pss_one (ps_ret (pe_cmpR (op_eqNil hr.units) (pe_lc (own := [("part", 1)]) (g := (gName 1)) (by rfl) nd (pi_tup (pe_slice sl_tupA (pv 0) (po_some pe_int) po_none)) (blkOk_by (own := [("part", 1)]) (N := N__law_is_formed) (sc := defScope s__law_is_formed) (by decide +kernel)) (fun _ _ _ _ _ => pg_name (i := 1) nd rfl (.inl rfl)) (fun _ _ _ _ _ => (pts_one (pt_not (pt_val (pe_call G (hr.mono (by omega)) (by rfl) T.g_law_is_formed T.f_law_is_formed.kp T.n_law_is_formed .nil pass0 (pa_cons (pv 1) pa_nil)))))) (fun _ _ _ _ _ => (pv 1))) (pe_lst pa_nil) (nomark _))))), ?_⟩
      refine ⟨x, rfl, x, .ty "tuple", _, _, _, rfl, .ty _, hx.ty, kit_ty (kit_tuple d), _, rfl, ?_⟩
      have no : ∀ H', Same H H' → formedD d = false → Q (.bl false) H' := fun H' sm e => by
        have := q H' sm
        rw [e] at this
        exact this
      cases hx with
      | tup ha hxs =>
        rename_i a xs ds
        have ln := hxs.length
        refine iteF ⟨_, rfl, a, xs, rfl, .inr (SqT.of ha), 1, _, rfl, rfl, _, rfl, ite2 (fun h1 => ?_) (fun h1 => ?_)⟩
        · have l1 : 1 ≤ xs.length := by
            have := of_decide_eq_true h1
            omega
          cases hxs with
          | nil => simp at l1
          | cons h0 hw =>
          rename_i v ws d0 ds
          have lw := hw.length
          have hs' : shortD d0 = true ∧ shortAll ds = true := by simpa [shortD, shortAll] using hs
          have hd' : PyData.depthAll ds < n := by
            simp only [PyData.depth, PyData.depthAll] at hd
            omega
          refine ⟨_, 4, rfl, rfl, _, rfl, ?_⟩
          by_cases h4 : ds.length ≤ 3
          · rw [decide_eq_true (show ((v :: ws).length : Int) ≤ 4 by rw [List.length_cons]; omega)]
            refine iteF ⟨_, rfl, a, _, 0, v, rfl, rfl, SqT.of ha, atI_nat (j := 0) rfl, v, d0, rfl, h0, hs'.1, fun H2 sm => ⟨_, rfl, ?_⟩⟩
            cases en : nameD d0 with
            | false => exact iteT (no H2 sm (by simp [formedD, en]))
            | true =>
              have ef : formedD (.tuple (d0 :: ds)) = formedAll ds := by simp [formedD, en, h4]
              rw [ef] at q
              refine iteF ⟨_, rfl, 1, rfl, a, _, rfl, SqT.of (sm _ _ ha), fun z => ?_, fun _ c nc => ?_⟩
              · exfalso
                have := z.1
                rw [show HT.sIx (v :: ws).length 0 (some 1) = min 1 (v :: ws).length from HT.sIx_nat _ 0 1, List.length_cons] at this
                omega
              rw [cut_one (by simp), List.drop_one, List.tail_cons]
              have sm2 := sm.trans (same_new (o := .tup ws) nc)
              refine ⟨c, rfl, ⟨_, SqT.of upd_same⟩, fun D nD => ?_⟩
              have ncD : c ≠ D := ne_of_none upd_same nD
              have nDH : H D = none := sm2.free nD
              refine lc_tup (K := K) (a := c) (xs := ws) (fun i H3 => Same H H3 ∧ H3 c = some (.tup ws) ∧ ∃ acc : List V, H3 D = some (.lst acc) ∧ acc.length ≤ i ∧ (acc = [] ↔ ∀ (j : Nat) e, j < i → ds[j]? = some e → formedD e = true))
                ⟨sm2.trans (same_new nD), by rw [upd_ne ncD, upd_same], [], upd_same, Nat.le_refl _, by simp⟩ (fun i H3 _ h => SqT.of h.2.1) ?_ ?_
              · rintro i y H3 hi ⟨sm3, ec, acc, eD, la, iff⟩
                have lt : i < ds.length := by
                  rw [← lw]
                  exact (List.getElem?_eq_some_iff.mp hi).1
                have gd := List.getElem?_eq_getElem lt
                obtain ⟨v2, hv, hx⟩ := hw.get gd
                rw [hi] at hv
                cases hv
                refine ⟨rfl, _, rfl, _, _, rfl, hx.up sm3, shortAll_get hs'.2 gd, Nat.lt_of_le_of_lt (depthAll_get gd) hd', fun H4 sm4 => ⟨_, rfl, ?_⟩⟩
                have step : ∀ b, formedD ds[i] = b → (b = true → (acc = [] ↔ ∀ (j : Nat) e, j < i + 1 → ds[j]? = some e → formedD e = true)) ∧ (b = false → ¬ ∀ (j : Nat) e, j < i + 1 → ds[j]? = some e → formedD e = true) := by
                  intro b hb
                  refine ⟨fun e => ?_, fun e h => ?_⟩
                  · rw [iff]
                    constructor
                    · intro h j d hj hd
                      by_cases z : j = i
                      · subst z
                        rw [gd] at hd
                        cases hd
                        rw [hb, e]
                      · exact h j d (by omega) hd
                    · exact fun h j d hj hd => h j d (by omega) hd
                  · have := h i _ (by omega) gd
                    rw [hb, e] at this
                    cases this
                cases eb : formedD ds[i] with
                | true => exact iteF ⟨sm3.trans sm4, sm4 _ _ ec, acc, sm4 _ _ eD, by omega, (step _ eb).1 rfl⟩
                | false =>
                  refine iteT ⟨_, rfl, acc, sm4 _ _ eD, small1000 (by omega), fun b o hb => ?_, ?_, acc ++ [_], upd_same, by simp; omega, ?_⟩
                  · rw [upd_ne (ne_of_none hb nDH)]
                    exact sm4 _ _ (sm3 _ _ hb)
                  · rw [upd_ne ncD]
                    exact sm4 _ _ ec
                  · constructor
                    · intro h
                      simp at h
                    · exact fun h => absurd h ((step _ eb).2 rfl)
              · rintro H3 ⟨sm3, ec, acc, eD, la, iff⟩
                refine ⟨Nat.zero_le _, fun e ne => ⟨D, e, acc, rfl, rfl, .inl (.inl (same_new ne _ _ eD)), .inl (.inl upd_same), ?_⟩⟩
                have fin := q _ (sm3.trans (same_new (o := .lst []) ne))
                have e1 : formedAll ds = acc.isEmpty := by
                  rw [Bool.eq_iff_iff, List.isEmpty_iff, iff, formedAll_iff, lw]
                  constructor
                  · exact fun h j d _ hd => h j d hd
                  · exact fun h j d hd => h j d (List.getElem?_eq_some_iff.mp hd).1 hd
                rw [e1] at fin
                exact fin
          · rw [decide_eq_false (show ¬ ((v :: ws).length : Int) ≤ 4 by rw [List.length_cons]; omega)]
            exact iteT (no H (Same.refl H) (by simp [formedD, h4]))
        · have l1 : ¬ 1 ≤ xs.length := fun e => h1 (decide_eq_true (by omega))
          cases ds with
          | nil => exact ⟨_, rfl, iteT (no H (Same.refl H) rfl)⟩
          | cons d0 ds =>
            rw [List.length_cons] at ln
            omega
      | non => exact iteT (iteT (no H (Same.refl H) rfl))
      | bl b => exact iteT (iteT (no H (Same.refl H) rfl))
      | int i => exact iteT (iteT (no H (Same.refl H) rfl))
      | lst _ _ => exact iteT (iteT (no H (Same.refl H) rfl))
      | str _ => exact iteT (iteT (no H (Same.refl H) rfl))
      | dic _ _ => exact iteT (iteT (no H (Same.refl H) rfl))
end
end K01
/-! The law's own word for terms. -/
namespace K01
open PySem PySem.Spec PyProof.Rows L2 Kx
section
variable {α β : Type} [DecidableEq α] [DecidableEq β]
/-- the different ones -/
def und : List α → List α
  | [] => []
  | x :: l => if x ∈ l then und l else x :: und l
theorem mem_und : ∀ (l : List α) (x : α), x ∈ und l ↔ x ∈ l
  | [], x => by simp [und]
  | y :: l, x => by
    unfold und
    have ih := mem_und l x
    split
    · rename_i h
      rw [ih, List.mem_cons]
      constructor
      · exact .inr
      · rintro (rfl | h2)
        · exact h
        · exact h2
    · rw [List.mem_cons, List.mem_cons, ih]
theorem und_nodup : ∀ l : List α, (und l).Nodup
  | [] => List.nodup_nil
  | y :: l => by
    unfold und
    split
    · exact und_nodup l
    · rename_i h
      exact List.nodup_cons.mpr ⟨fun e => h ((mem_und l y).mp e), und_nodup l⟩
theorem und_len : ∀ l : List α, (und l).length = Kx.cnt l
  | [] => rfl
  | y :: l => by
    unfold und Kx.cnt
    split
    · exact und_len l
    · rw [List.length_cons, und_len l]
theorem cnt_inj {f : α → β} (hf : ∀ a b, f a = f b → a = b) : ∀ l : List α, Kx.cnt (l.map f) = Kx.cnt l
  | [] => rfl
  | y :: l => by
    have e : f y ∈ l.map f ↔ y ∈ l := by
      rw [List.mem_map]
      constructor
      · rintro ⟨a, ha, h⟩
        rw [← hf _ _ h]
        exact ha
      · exact fun h => ⟨y, h, rfl⟩
    rw [List.map_cons]
    unfold Kx.cnt
    simp only [e]
    rw [cnt_inj hf l]
end
theorem cnt_fst_le : ∀ l : List NK, Kx.cnt (l.map Prod.fst) ≤ Kx.cnt l
  | [] => Nat.le_refl _
  | y :: l => by
    have ih := cnt_fst_le l
    rw [List.map_cons]
    unfold Kx.cnt
    by_cases h : y ∈ l
    · have : y.1 ∈ l.map Prod.fst := List.mem_map.mpr ⟨y, h, rfl⟩
      rw [if_pos h, if_pos this]
      exact ih
    · rw [if_neg h]
      split <;> omega
theorem cnt_func : ∀ l : List NK, Kx.cnt l = Kx.cnt (l.map Prod.fst) ↔ Func l
  | [] => by simp [Kx.cnt, Func]
  | y :: l => by
    have ih := cnt_func l
    have le := cnt_fst_le l
    rw [List.map_cons]
    unfold Kx.cnt
    by_cases h : y ∈ l
    · have h2 : y.1 ∈ l.map Prod.fst := List.mem_map.mpr ⟨y, h, rfl⟩
      rw [if_pos h, if_pos h2, ih]
      refine Func.congr fun p => ?_
      rw [List.mem_cons]
      constructor
      · exact .inr
      · rintro (rfl | h3)
        · exact h
        · exact h3
    · rw [if_neg h]
      by_cases h2 : y.1 ∈ l.map Prod.fst
      · rw [if_pos h2]
        constructor
        · intro e
          omega
        · intro f
          exfalso
          obtain ⟨z, hz, e⟩ := List.mem_map.mp h2
          have := f y List.mem_cons_self z (List.mem_cons_of_mem _ hz) e.symm
          refine h ?_
          have : y = z := Prod.ext e.symm this
          rw [this]
          exact hz
      · rw [if_neg h2]
        have e1 : Kx.cnt l + 1 = Kx.cnt (l.map Prod.fst) + 1 ↔ Kx.cnt l = Kx.cnt (l.map Prod.fst) := by omega
        rw [e1, ih]
        constructor
        · intro f p hp q hq e
          rcases List.mem_cons.mp hp with rfl | hp
          · rcases List.mem_cons.mp hq with rfl | hq
            · rfl
            · exact absurd (List.mem_map.mpr ⟨q, hq, e.symm⟩) h2
          · rcases List.mem_cons.mp hq with hq | hq
            · rw [hq] at e
              exact absurd (List.mem_map.mpr ⟨p, hp, e⟩) h2
            · exact f p hp q hq e
        · exact fun f p hp q hq e => f p (List.mem_cons_of_mem _ hp) q (List.mem_cons_of_mem _ hq) e
/-- a name with its places, as a key -/
def rowK (p : NK) : List Key := [.inr p.1, .inl ((p.2 + 1 : Nat) : Int)]
theorem rowK_inj (p q : NK) (h : rowK p = rowK q) : p = q := by
  unfold rowK at h
  injection h with h1 h2
  injection h2 with h2 _
  injection h1 with h1
  injection h2 with h2
  exact Prod.ext h1 (Nat.succ.inj (Int.ofNat.inj h2))
/-- len of a sequence -/
abbrev rLenS (K : PySem.W.Frag) : List V → Hp → VK → Prop := fun xs H Q => ∃ p ys, xs = [.ref p] ∧ (SqL K H p ys ∨ SqT K H p ys) ∧ Q (.int ys.length) H
section
variable {P : Program} {w : World} {K : PySem.W.Frag} {mg : Str → Option Value} {base : Heap}
def spLterm (K : PySem.W.Frag) (n : Nat) : Sp := fun vs H Q _ => ∃ (x : V) (d : PyData), vs = [x] ∧ Dx K H x d ∧ shortD d = true ∧ d.depth < n ∧ (rowsD d).length < 64 ∧ ∀ H', Same H H' → Q (.bl (termD d)) H'
theorem ok_lterm (T : Tx K mg) (n : Nat) : FnOk P w K mg base CX0 (n + 3) T.a_law_is_term T.d_law_is_term ["thing"] (spLterm K n) := by
  have nd := sc__law_is_term.nd
  have G1 := ok_formed (P := P) (w := w) (base := base) T n
  have G2 := ok_below (P := P) (w := w) (base := base) T n
  refine T.f_law_is_term.ok sc__law_is_term (fun vs H Q E h => ?_) (fun cdv A outer s H vs Q E hr h => ?_)
  · obtain ⟨x, d, rfl, _⟩ := h
    rfl
  · obtain ⟨x, d, rfl, hx, hs, hd, hl, q⟩ := h
    refine ⟨_, (pss_cons (ps_if (pt_not (pt_val (pe_call G1 (hr.mono (by omega)) (by rfl) T.g_law_is_formed T.f_law_is_formed.kp T.n_law_is_formed .nil pass0 (pa_cons (pv 0) pa_nil)))) (pss_one (ps_ret pe_bl)) pss_nil)
      (pss_cons (ps_setLc (i := 1) (own := [("part", 2)]) (g := (gName 2)) (tt := tYes) (by rfl) nd rfl rfl (sw_true rfl rfl rfl (by decide +kernel)) (pi_list (pe_call G2 (hr.mono (by omega)) (by rfl) T.g_law_below T.f_law_below.kp T.n_law_below .nil pass0 (pa_cons (pv 0) pa_nil))) (blkOk_by (own := [("part", 2)]) (N := N__law_is_term) (sc := defScope s__law_is_term) (by decide +kernel)) (fun _ _ _ _ _ => pg_name (i := 2) nd rfl (.inl rfl)) (fun _ _ _ _ _ => pts_nil) (fun _ _ _ _ _ => (pe_tup (pa_cons (pe_ix (r := rIxT K) ix_tup (pv 2) pe_int (fun _ _ => rfl)) (pa_cons (pe_callB (r := rLenS K) call_len_seq (by rfl) T.b_len PySem.boot_len (pa_cons (pv 2) pa_nil)) pa_nil)))))
      (pss_one (ps_ret (pe_cmpR op_eq (pe_lenSetK (by rfl) (by rfl) T.b_len (by rfl) T.b_set (pv 1) hr.units) (pe_lenSetT (by rfl) (by rfl) T.b_len (by rfl) T.b_set (pe_lc (own := [("row", 3)]) (g := (gName 3)) (tt := tYes) (by rfl) nd (pi_list (pv 1)) (blkOk_by (own := [("row", 3)]) (N := N__law_is_term) (sc := defScope s__law_is_term) (by decide +kernel)) (fun _ _ _ _ _ => pg_name (i := 3) nd rfl (.inl rfl)) (fun _ _ _ _ _ => pts_nil) (fun _ _ _ _ _ => (pe_ix (r := rIxT K) ix_tup (pv 3) pe_int (fun _ _ => rfl))))) (nomark _)))))), ?_⟩
    refine ⟨x, rfl, x, d, rfl, hx, hs, hd, fun H1 sm1 => ⟨_, rfl, ?_⟩⟩
    cases ef : formedD d with
    | false =>
      have := q H1 sm1
      rw [termD, ef] at this
      exact iteT this
    | true =>
      refine iteF ⟨_, rfl, x, d, rfl, hx.up sm1, ef, by omega, by omega, fun p H2 zs sm2 np sa pm => ?_⟩
      have lz : zs.length < 64 := by
        have := pm.length_eq
        rw [List.length_map] at this
        omega
      refine ⟨p, rfl, ⟨_, .inl (.inl sa.1)⟩, fun D nD => ?_⟩
      refine lc_list (K := K) (a := p) (xs := zs.map fun z => V.ref z.1) (fun i H3 => Same H2 H3 ∧ ∃ ks : List Kx.Row, H3 D = some (.lst (ks.map fun r => V.ref r.1)) ∧ ks.map Prod.snd = (zs.take i).map (fun z => rowK (rowOf z)) ∧ ∀ r, r ∈ ks → H3 r.1 = some (.tup (r.2.map kV)))
        ⟨same_new nD, [], upd_same, by simp, fun r h => (nomatch h)⟩ (fun i H3 _ h => .inl (.inl (h.1 _ _ sa.1))) ?_ ?_
      · rintro i y H3 hi ⟨sm3, ks, eD, ek, hk⟩
        rw [List.getElem?_map] at hi
        obtain ⟨z, hz, rfl⟩ := Option.map_eq_some_iff.mp hi
        have lt : i < zs.length := (List.getElem?_eq_some_iff.mp hz).1
        have lk : ks.length = i := by
          have := congrArg List.length ek
          simp only [List.length_map, List.length_take] at this
          omega
        have tz := sm3 _ _ (sa.2 z (List.mem_of_getElem? hz))
        refine ⟨rfl, (iteT (B := False) ?_ : if true = true then _ else False)⟩
        refine ⟨_, rfl, z.1, _, 0, .str z.2.1, rfl, rfl, SqT.of tz, atI_nat (j := 0) rfl, _, rfl, z.1, _, rfl, .inr (SqT.of tz), (by show 2 ≤ sizeLine; decide), fun c nc => ?_⟩
        have ncD : D ≠ c := ne_of_none eD nc
        refine ⟨ks.map fun r => V.ref r.1, by rw [upd_ne ncD]; exact eD, by rw [List.length_map]; exact small1000 (by omega), fun b o hb => ?_, ks ++ [(c, rowK (rowOf z))], by rw [upd_same, List.map_append]; rfl, ?_, fun r hr => ?_⟩
        · rw [upd_ne (ne_of_none hb nD)]
          exact same_new nc b o (sm3 b o hb)
        · rw [List.map_append, ek, List.take_add_one, hz, List.map_append]
          rfl
        · rcases List.mem_append.mp hr with h | h
          · have := hk r h
            rw [upd_ne (ne_of this eD (fun e => nomatch e)), upd_ne (ne_of_none this nc)]
            exact this
          · rw [List.mem_singleton.mp h, upd_ne ncD.symm, upd_same]
            rfl
      · rintro H3 ⟨sm3, ks, eD, ek, hk⟩
        rw [List.length_map, List.take_length] at ek
        have lk : ks.length = zs.length := by
          have := congrArg List.length ek
          simpa only [List.length_map] using this
        refine ⟨_, rfl, D, ks, rfl, .inl (.inl eD), fun r hr => SqT.of (hk r hr), by omega, fun m hm => ?_⟩
        refine ⟨_, rfl, D, rfl, ⟨_, .inl (.inl eD)⟩, fun E nE => ?_⟩
        refine lc_list (K := K) (a := D) (xs := ks.map fun r => V.ref r.1) (fun i H4 => Same H3 H4 ∧ H4 E = some (.lst ((zs.take i).map fun z => V.str z.2.1)))
          ⟨same_new nE, by rw [upd_same]; simp⟩ (fun i H4 _ h => .inl (.inl (h.1 _ _ eD))) ?_ ?_
        · rintro i y H4 hi ⟨sm4, eE⟩
          rw [List.getElem?_map] at hi
          obtain ⟨r, hr, rfl⟩ := Option.map_eq_some_iff.mp hi
          have lt : i < zs.length := by
            rw [← lk]
            exact (List.getElem?_eq_some_iff.mp hr).1
          have e2 := congrArg (fun l => l[i]?) ek
          simp only [List.getElem?_map, hr, List.getElem?_eq_getElem lt, Option.map_some] at e2
          have tz := sm4 _ _ (hk r (List.mem_of_getElem? hr))
          rw [Option.some.inj e2] at tz
          refine ⟨rfl, (iteT (B := False) ?_ : if true = true then _ else False)⟩
          refine ⟨_, rfl, r.1, _, 0, .str zs[i].2.1, rfl, rfl, SqT.of tz, atI_nat (j := 0) rfl, _, eE, ?_, fun b o hb => ?_, ?_⟩
          · rw [List.length_map, List.length_take]
            exact small1000 (by omega)
          · rw [upd_ne (ne_of_none hb nE)]
            exact sm4 b o hb
          · rw [upd_same, List.take_add_one, List.getElem?_eq_getElem lt, List.map_append]
            rfl
        · rintro H4 ⟨sm4, eE⟩
          rw [List.length_map, lk, List.take_length] at eE
          refine ⟨E, zs.map fun z => z.2.1, rfl, .inl (.inl (by rw [eE, List.map_map]; rfl)), by rw [List.length_map]; omega, ?_⟩
          have fin := q H4 (sm1.trans (sm2.trans (fun b o hb => sm4 b o (sm3 b o hb))))
          have m1 : m = Kx.cnt (zs.map rowOf) := by
            rw [← hm (und (keysK ks)) (und_nodup _) (mem_und _), und_len, keysK, ek]
            have : (zs.map fun z => rowK (rowOf z)) = (zs.map rowOf).map rowK := by rw [List.map_map]; rfl
            rw [this, cnt_inj rowK_inj]
          have m2 : (zs.map fun z => z.2.1) = (zs.map rowOf).map Prod.fst := by rw [List.map_map]; rfl
          rw [m2, m1]
          have e3 : termD d = decide ((Kx.cnt (zs.map rowOf) : Int) = (Kx.cnt ((zs.map rowOf).map Prod.fst) : Int)) := by
            rw [termD, ef, Bool.true_and]
            refine decide_eq_decide.mpr ?_
            rw [Int.ofNat_inj, cnt_func]
            exact Func.congr fun p => (pm.mem_iff).symm
          rw [e3] at fin
          have e4 : ∀ a b : Int, decide (V.int a = V.int b) = decide (a = b) := fun a b => decide_eq_decide.mpr ⟨fun h => V.int.inj h, fun h => by rw [h]⟩
          rw [← e4] at fin
          exact ⟨rfl, fin⟩
end
end K01
/-! The names of a turn. -/
namespace K01
open PySem PySem.Spec PyProof.Rows L2 Kx
/-- the heap without a -/
def Off (a : Addr) (H : Hp) : Hp := fun b => if b = a then none else H b
theorem Off.ne {a b : Addr} {H : Hp} (h : b ≠ a) : Off a H b = H b := if_neg h
theorem Off.of {a b : Addr} {H : Hp} {o : HO} (h : Off a H b = some o) : b ≠ a ∧ H b = some o := by
  unfold Off at h
  by_cases e : b = a
  · rw [if_pos e] at h
    cases h
  · rw [if_neg e] at h
    exact ⟨e, h⟩
theorem Off.same {a : Addr} {H : Hp} : Same (Off a H) H := fun b o h => (Off.of h).2
theorem But.off {a : Addr} {H H' : Hp} (h : But a H H') : Same (Off a H) (Off a H') := fun b o e => by
  obtain ⟨n, e⟩ := Off.of e
  rw [Off.ne n]
  exact h b o e n
abbrev Rw := Addr × NK
def rowO (r : NK) : HO := .tup [.str r.1, .int (r.2 : Int)]
/-- a list of rows at f -/
def RowsIn (H : Hp) (f : Addr) (zs : List Rw) : Prop := H f = some (.lst (zs.map fun z => V.ref z.1)) ∧ ∀ z, z ∈ zs → H z.1 = some (rowO z.2)
theorem RowsIn.up {H H' : Hp} {f : Addr} {zs : List Rw} (h : RowsIn H f zs) (e : Same H H') : RowsIn H' f zs := ⟨e _ _ h.1, fun z hz => e _ _ (h.2 z hz)⟩
theorem RowsIn.snoc {H : Hp} {f q : Addr} {zs : List Rw} {r : NK} (h : RowsIn H f zs) (n : H q = none) : RowsIn (upd (upd H q (rowO r)) f (.lst ((zs.map fun z => V.ref z.1) ++ [V.ref q]))) f (zs ++ [(q, r)]) := by
  have nf : q ≠ f := fun e => by
    rw [e, h.1] at n
    cases n
  refine ⟨by rw [upd_same, List.map_append]; rfl, fun z hz => ?_⟩
  rcases List.mem_append.mp hz with hz | hz
  · have := h.2 z hz
    rw [upd_ne (ne_of this h.1 (fun e => nomatch e)), upd_ne (ne_of_none this n)]
    exact this
  · rw [List.mem_singleton.mp hz, upd_ne nf, upd_same]
theorem RowsIn.len {zs : List Rw} : (zs.map fun z => V.ref z.1).length = zs.length := List.length_map ..
theorem Dice.ne {H : Hp} {a b : Addr} {n : Nat} (d : Dice H a n) (h : H b = none) : b ≠ a := fun e => by
  obtain ⟨_, _, _, z, _⟩ := d
  rw [e, z] at h
  cases h
theorem Dice.put {H : Hp} {a b : Addr} {n : Nat} {o : HO} (d : Dice H a n) (h : b ≠ a) : Dice (upd H b o) a n := d.same (upd_ne h.symm)
theorem But.free {a b : Addr} {H H' : Hp} (x : But a H H') (n : b ≠ a) (h : H' b = none) : H b = none := by
  cases e : H b with
  | none => rfl
  | some o =>
    rw [x b o e n] at h
    cases h
theorem But.put {a b : Addr} {H H' : Hp} {o : HO} (x : But a H H') (h : H b = none) : But a H (L2.upd H' b o) := fun c u hc nc => by
  rw [upd_ne (ne_of_none hc h)]
  exact x c u hc nc
theorem RowsIn.but {H H' : Hp} {a f : Addr} {n : Nat} {zs : List Rw} (h : RowsIn H f zs) (x : But a H H') (d : Dice H a n) (nf : f ≠ a) : RowsIn H' f zs := by
  obtain ⟨_, _, _, hz, _⟩ := d
  exact ⟨x _ _ h.1 nf, fun z m => x _ _ (h.2 z m) (ne_of (h.2 z m) hz (fun e => nomatch e))⟩
/-- good rows: names, few places, each name with its places; one without places -/
structure Good (l : List NK) : Prop where
  nm : ∀ r, r ∈ l → isNm r.1 = true ∧ r.2 ≤ 3
  fn : Func l
  cell : ∃ r, r ∈ l ∧ r.2 = 0
  few : l.length ≤ 20
theorem Good.perm {l m : List NK} (g : Good l) (h : l.Perm m) : Good m := by
  refine ⟨fun r hr => g.nm r (h.mem_iff.mpr hr), (Func.congr fun p => h.mem_iff).mp g.fn, ?_, by rw [← h.length_eq]; exact g.few⟩
  obtain ⟨r, hr, e⟩ := g.cell
  exact ⟨r, h.mem_iff.mp hr, e⟩
def pools : List (List Str) := [["a", "b", "c", "d"], ["a", "ab", "b", "ba"], ["x", "xin", "xout", "y"]]
def funcs : List Str := ["f", "g", "gg", "zzzzzzzz"]
theorem pools_ok : ∀ l, l ∈ pools → l.length = 4 ∧ ∀ x, x ∈ l → isNm x = true ∧ x ∉ funcs := by decide +kernel
theorem funcs_ok : funcs.Nodup ∧ ∀ x, x ∈ funcs → isNm x = true := by decide +kernel
theorem cut_upto {xs : List V} {i : Int} (h : 0 ≤ i) : cutV xs none (some i) = xs.take i.toNat := by
  obtain ⟨n, rfl⟩ := Int.eq_ofNat_of_zero_le h
  unfold cutV
  rw [show HT.sIx xs.length xs.length (some (n : Int)) = min n xs.length from HT.sIx_nat xs.length xs.length n, show HT.sIx xs.length 0 none = 0 from rfl, List.drop_zero, Nat.sub_zero, Int.toNat_natCast]
  by_cases e : n ≤ xs.length
  · rw [Nat.min_eq_left e]
  · rw [Nat.min_eq_right (by omega), List.take_length, List.take_of_length_le (by omega)]
theorem perm_back {α β : Type} {f : α → β} {l ys : List β} (h : l.Perm ys) : ∀ zs : List α, l = zs.map f → ∃ ws : List α, ws.Perm zs ∧ ys = ws.map f := by
  induction h with
  | nil =>
    intro zs e
    cases zs with
    | nil => exact ⟨[], List.Perm.refl _, rfl⟩
    | cons z zs => cases e
  | cons x _ ih =>
    intro zs e
    cases zs with
    | nil => cases e
    | cons z zs =>
      rw [List.map_cons] at e
      injection e with e1 e2
      obtain ⟨ws, p, q⟩ := ih zs e2
      exact ⟨z :: ws, p.cons z, by rw [List.map_cons, q, e1]⟩
  | swap x y l =>
    intro zs e
    cases zs with
    | nil => cases e
    | cons z zs =>
      cases zs with
      | nil => cases e
      | cons z2 zs =>
        rw [List.map_cons, List.map_cons] at e
        injection e with e1 e2
        injection e2 with e2 e3
        exact ⟨z2 :: z :: zs, List.Perm.swap _ _ _, by rw [List.map_cons, List.map_cons, e1, e2, e3]⟩
  | trans _ _ ih1 ih2 =>
    intro zs e
    obtain ⟨ws, p, q⟩ := ih1 zs e
    obtain ⟨vs, p2, q2⟩ := ih2 ws q
    exact ⟨vs, p2.trans p, q2⟩
theorem nodup_inj {α β : Type} {f : α → β} : ∀ {l : List α} {x y : α}, (l.map f).Nodup → x ∈ l → y ∈ l → f x = f y → x = y
  | [], _, _, _, h, _, _ => nomatch h
  | z :: l, x, y, nd, hx, hy, e => by
    rw [List.map_cons, List.nodup_cons] at nd
    rcases List.mem_cons.mp hx with h1 | h1
    · rcases List.mem_cons.mp hy with h2 | h2
      · rw [h1, h2]
      · exact absurd (List.mem_map.mpr ⟨y, h2, by rw [← e, h1]⟩) nd.1
    · rcases List.mem_cons.mp hy with h2 | h2
      · exact absurd (List.mem_map.mpr ⟨x, h1, by rw [e, h2]⟩) nd.1
      · exact nodup_inj nd.2 h1 h2 e
/-- a row as an item to be sorted -/
def rowI (z : Rw) : V × PyData := (V.ref z.1, PyData.tuple [.str z.2.1, .int (z.2.2 : Int)])
section
variable {P : Program} {w : World} {K : PySem.W.Frag} {mg : Str → Option Value} {base : Heap}
def spNames (K : PySem.W.Frag) : Sp := fun vs H Q _ => ∃ (a : Addr) (n : Nat), vs = [.ref a, .int 3] ∧ Dice H a n ∧ n + 100 < cap ∧
  ∀ (p : Addr) (zs : List Rw) H', But a H H' → Dice H' a (n + 100) → H p = none → p ≠ a → RowsIn H' p zs → Good (zs.map Prod.snd) → Q (.ref p) H'
theorem ok_names (T : Tx K mg) : FnOk P w K mg base CX0 3 T.a_law_names T.d_law_names ["dice", "few"] (spNames K) := by
  have nd := sc__law_names.nd
  have G1 := ok_roll (P := P) (w := w) (base := base) T
  have G2 := ok_pick (P := P) (w := w) (base := base) T
  have G3 := ok_mixed (P := P) (w := w) (base := base) T
  refine T.f_law_names.ok sc__law_names (fun vs H Q E h => ?_) (fun cdv A outer s H vs Q E hr h => ?_)
  · obtain ⟨a, n, rfl, _⟩ := h
    rfl
  · obtain ⟨a, n, rfl, hd, hn, q⟩ := h
    refine ⟨_, (pss_cons (ps_set (i := 2) nd rfl (.inl rfl) (pe_lst (pa_cons (pe_lst (pa_cons pe_str (pa_cons pe_str (pa_cons pe_str (pa_cons pe_str pa_nil))))) (pa_cons (pe_lst (pa_cons pe_str (pa_cons pe_str (pa_cons pe_str (pa_cons pe_str pa_nil))))) (pa_cons (pe_lst (pa_cons pe_str (pa_cons pe_str (pa_cons pe_str (pa_cons pe_str pa_nil))))) pa_nil)))))
      (C8.pss_cut (ps_set (i := 3) nd rfl (.inl rfl) (pe_call G3 (hr.mono (by omega)) (by rfl) T.g_law_mixed T.f_law_mixed.kp T.n_law_mixed .nil pass0 (pa_cons (pv 0) (pa_cons (pe_call G2 (hr.mono (by omega)) (by rfl) T.g_law_pick T.f_law_pick.kp T.n_law_pick .nil pass0 (pa_cons (pv 0) (pa_cons (pv 2) pa_nil))) pa_nil))))
      (pss_cons (ps_setLc (i := 5) (own := [("name", 4)]) (g := (gName 4)) (tt := tYes) (by rfl) nd rfl rfl (sw_true rfl rfl rfl (by decide +kernel)) (pi_list (pe_slice sl_list (pv 3) po_none (po_some (pe_op op_add pe_int (pe_call G1 (hr.mono (by omega)) (by rfl) T.g_law_roll T.f_law_roll.kp T.n_law_roll .nil pass0 (pa_cons (pv 0) (pa_cons pe_int pa_nil))))))) (blkOk_by (own := [("name", 4)]) (N := N__law_names) (sc := defScope s__law_names) (by decide +kernel)) (fun _ _ _ _ _ => pg_name (i := 4) nd rfl (.inl rfl)) (fun _ _ _ _ _ => pts_nil) (fun _ _ _ _ _ => (pe_tup (pa_cons (pv 4) (pa_cons pe_int pa_nil)))))
      (pss_cons (ps_for PassesOwn.never rfl (pi_list (pe_slice sl_list (pe_call G3 (hr.mono (by omega)) (by rfl) T.g_law_mixed T.f_law_mixed.kp T.n_law_mixed .nil pass0 (pa_cons (pv 0) (pa_cons (pe_lst (pa_cons pe_str (pa_cons pe_str (pa_cons pe_str (pa_cons pe_str pa_nil))))) pa_nil))) po_none (po_some (pe_op op_add pe_int (pe_call G1 (hr.mono (by omega)) (by rfl) T.g_law_roll T.f_law_roll.kp T.n_law_roll .nil pass0 (pa_cons (pv 0) (pa_cons (pv 1) pa_nil))))))) (pg_name (i := 4) nd rfl (.inl rfl)) (pss_one (ps_expr (pe_bm PySem.F.plainAttrs_list PySem.F.slot_list_append PySem.F.type_list_append mt_append (pv 5) (pa_cons (pe_tup (pa_cons (pv 4) (pa_cons (pe_op op_add pe_int (pe_callB (call_max2 rfl) (by rfl) T.b_max (by decide +kernel) (pa_cons pe_int (pa_cons (pe_op op_sub (pe_call G1 (hr.mono (by omega)) (by rfl) T.g_law_roll T.f_law_roll.kp T.n_law_roll .nil pass0 (pa_cons (pv 0) (pa_cons pe_int pa_nil))) pe_int) pa_nil)))) pa_nil))) pa_nil)))))
      (pss_one (ps_ret (pe_callB (cr_sortedD hr.units) (by rfl) T.b_sorted (by decide +kernel) (pa_cons (pv 5) pa_nil)))))))), ?_⟩
    -- pools
    refine ⟨(by show 4 ≤ sizeLine; decide), fun p1 n1 => ⟨(by show 4 ≤ sizeLine; decide), fun p2 n2 => ⟨(by show 4 ≤ sizeLine; decide), fun p3 n3 => ⟨(by show 3 ≤ sizeLine; decide), fun pl n4 => ?_⟩⟩⟩⟩
    have s1 := same_new (o := .lst [.str "a", .str "b", .str "c", .str "d"]) n1
    have s2 := same_new (o := .lst [.str "a", .str "ab", .str "b", .str "ba"]) n2
    have s3 := same_new (o := .lst [.str "x", .str "xin", .str "xout", .str "y"]) n3
    have s4 := same_new (o := .lst [.ref p1, .ref p2, .ref p3]) n4
    have dH := hd
    obtain ⟨i0, i1, i2, ha, _⟩ := dH
    have hpl : ∀ v, v ∈ [V.ref p1, .ref p2, .ref p3] → ∃ b l, v = .ref b ∧ l ∈ pools ∧ b ≠ a ∧ (upd (upd (upd (upd H p1 (.lst [.str "a", .str "b", .str "c", .str "d"])) p2 (.lst [.str "a", .str "ab", .str "b", .str "ba"])) p3 (.lst [.str "x", .str "xin", .str "xout", .str "y"])) pl (.lst [.ref p1, .ref p2, .ref p3])) b = some (.lst (l.map V.str)) := by
      intro v hv
      have na : ∀ {G : Hp} {b : Addr}, Same H G → G b = none → b ≠ a := fun sm e z => by
        rw [z, sm _ _ ha] at e
        cases e
      rcases List.mem_cons.mp hv with rfl | hv
      · exact ⟨p1, ["a", "b", "c", "d"], rfl, .head _, na (Same.refl H) n1, s4 _ _ (s3 _ _ (s2 _ _ upd_same))⟩
      · rcases List.mem_cons.mp hv with rfl | hv
        · exact ⟨p2, ["a", "ab", "b", "ba"], rfl, .tail _ (.head _), na s1 n2, s4 _ _ (s3 _ _ upd_same)⟩
        · cases List.mem_singleton.mp hv
          exact ⟨p3, ["x", "xin", "xout", "y"], rfl, .tail _ (.tail _ (.head _)), na (s1.trans s2) n3, s4 _ _ upd_same⟩
    have npa : pl ≠ a := fun z => by
      rw [z, s3 _ _ (s2 _ _ (s1 _ _ ha))] at n4
      cases n4
    refine ⟨fun σ' H' => But a H H' ∧ Dice H' a (n + 5) ∧ ∃ (c : Addr) (ys : List Str), σ' = [some (.ref a), some (.int 3), some (.ref pl), some (.ref c), none, none] ∧ c ≠ a ∧ H' c = some (.lst (ys.map V.str)) ∧ ys.length = 4 ∧ ∀ x, x ∈ ys → isNm x = true ∧ x ∉ funcs, ?_, ?_⟩
    · refine ⟨.ref a, rfl, .ref a, rfl, .ref pl, rfl, a, pl, n, _, rfl, ((((hd.up s1).up s2).up s3).up s4), by omega, .inl (.inl upd_same), npa, Nat.zero_lt_succ _, (by show 3 < 1000000; decide), fun i v H' bt dd hi => ?_⟩
      obtain ⟨b, l, rfl, hl, hb, eb⟩ := hpl v (List.mem_of_getElem? hi)
      obtain ⟨l4, lp⟩ := pools_ok l hl
      have eb' := bt _ _ eb hb
      refine ⟨a, b, n + 1, l.map V.str, rfl, dd, by rw [List.length_map]; omega, .inl (.inl eb'), hb, by rw [List.length_map]; omega, fun ys c H2 bt2 dd2 pm nc nca ec => ?_⟩
      obtain ⟨ws, pw, rfl⟩ := perm_back pm.symm l rfl
      rw [List.length_map, l4] at dd2
      exact ⟨(But.of (s1.trans (s2.trans (s3.trans s4)))).trans (bt.trans bt2), dd2, c, ws, rfl, nca, ec, by rw [pw.length_eq, l4], fun x hx => lp x (pw.mem_iff.mp hx)⟩
    rintro σ1 H1 ⟨bt1, dd1, c, ys, rfl, nca, ec, y4, hy⟩
    -- the cells
    refine ⟨_, rfl, _, rfl, a, n + 5, 3, rfl, dd1, by omega, by decide, by decide, fun r H2 bt2 dd2 r0 r1 => ⟨2, r, rfl, rfl, _, rfl, c, _, rfl, .inl (.inl (bt2 _ _ ec nca)), fun e ne => ⟨e, rfl, ⟨_, .inl (.inl upd_same)⟩, fun D nD => ?_⟩⟩⟩
    rw [cut_upto (by omega), ← List.map_take] at nD ⊢
    have nea := dd2.ne ne
    have sne := same_new (o := .lst ((ys.take (2 + r).toNat).map V.str)) ne
    have nDa := (dd2.up sne).ne nD
    have nDH := But.free (bt1.trans (bt2.trans (But.of sne))) nDa nD
    have lc : (ys.take (2 + r).toNat).length ≤ 4 ∧ 2 ≤ (ys.take (2 + r).toNat).length := by
      rw [List.length_take]
      omega
    have hc : ∀ x, x ∈ ys.take (2 + r).toNat → isNm x = true ∧ x ∉ funcs := fun x hx => hy x (List.mem_of_mem_take hx)
    generalize ys.take (2 + r).toNat = cs at lc hc nD sne
    refine lc_list (K := K) (a := e) (xs := cs.map V.str) (fun i H3 => But a H H3 ∧ Dice H3 a (n + 6) ∧ H3 e = some (.lst (cs.map V.str)) ∧ ∃ zs : List Rw, RowsIn H3 D zs ∧ zs.map Prod.snd = (cs.take i).map fun x => (x, 0))
      ⟨bt1.trans (bt2.trans (But.of (sne.trans (same_new nD)))), dd2.up (sne.trans (same_new nD)), same_new nD _ _ upd_same, [], ⟨upd_same, fun z hz => (nomatch hz)⟩, by simp⟩ (fun i H3 _ h => .inl (.inl h.2.2.1)) ?_ ?_
    · rintro i y H3 hi ⟨bt3, dd3, ee, zs, ri, em⟩
      rw [List.getElem?_map] at hi
      obtain ⟨x, hx, rfl⟩ := Option.map_eq_some_iff.mp hi
      have lt : i < cs.length := (List.getElem?_eq_some_iff.mp hx).1
      have lz : zs.length = i := by
        have := congrArg List.length em
        simp only [List.length_map, List.length_take] at this
        omega
      refine ⟨rfl, (iteT (B := False) ?_ : if true = true then _ else False)⟩
      refine ⟨_, rfl, (by show 2 ≤ sizeLine; decide), fun q nq => ?_⟩
      have nqD : D ≠ q := ne_of_none ri.1 nq
      have smq := same_new (o := rowO (x, 0)) nq
      have neD : e ≠ D := fun z => by
        rw [z, upd_same] at nD
        cases nD
      refine ⟨zs.map fun z => V.ref z.1, by rw [upd_ne nqD]; exact ri.1, by rw [List.length_map]; exact small1000 (by omega), (bt3.trans (But.of smq)).put nDH, (dd3.up smq).put nDa, ?_, zs ++ [(q, (x, 0))], ri.snoc (r := (x, 0)) nq, ?_⟩
      · rw [upd_ne neD]
        exact smq _ _ ee
      · rw [List.map_append, em, List.take_add_one, hx, List.map_append]
        rfl
    rintro H3 ⟨bt3, dd3, ee, zs, ri, em⟩
    rw [List.length_map, List.take_length] at em
    clear ee sne
    -- the others
    refine ⟨_, rfl, (by show 4 ≤ sizeLine; decide), fun g ng => ⟨a, g, n + 6, funcs.map V.str, rfl, dd3.up (same_new ng), by show n + 6 + 4 < cap; omega, .inl (.inl upd_same), dd3.ne ng, by decide, fun fs p H4 bt4 dd4 pm np npa' ep => ?_⟩⟩
    obtain ⟨ws, pw, rfl⟩ := perm_back pm.symm funcs rfl
    have dd4 : Dice H4 a (n + 10) := dd4
    have ri4 := (ri.up (same_new (o := .lst (funcs.map V.str)) ng)).but bt4 (dd3.up (same_new ng)) nDa
    have bt4 := bt3.trans ((But.of (same_new (o := .lst (funcs.map V.str)) ng)).trans bt4)
    refine ⟨_, rfl, _, rfl, a, n + 10, 3, rfl, dd4, by omega, by decide, by decide, fun r5 H5 bt5 dd5 r50 r51 => ⟨1, r5, rfl, rfl, _, rfl, p, _, rfl, .inl (.inl (bt5 _ _ ep npa')), fun u nu => ⟨u, rfl, ⟨_, .inl (.inl upd_same)⟩, ?_⟩⟩⟩
    rw [cut_upto (by omega), ← List.map_take]
    have nus : u ≠ D := (ne_of_none (ri4.but bt5 dd4 nDa).1 nu).symm
    have smu := same_new (o := .lst ((ws.take (1 + r5).toNat).map V.str)) nu
    have nua := dd5.ne nu
    have lf : (ws.take (1 + r5).toNat).length ≤ 3 := by
      rw [List.length_take]
      omega
    have ndw : (ws.take (1 + r5).toNat).Nodup := List.Nodup.sublist (List.take_sublist _ _) (pw.nodup_iff.mpr funcs_ok.1)
    have hw : ∀ x, x ∈ ws.take (1 + r5).toNat → x ∈ funcs := fun x hx => pw.mem_iff.mp (List.mem_of_mem_take hx)
    have bt6 := bt4.trans (bt5.trans (But.of smu))
    have dd6 := dd5.up smu
    have ri6 := (ri4.but bt5 dd4 nDa).up smu
    generalize ws.take (1 + r5).toNat = us at lf ndw hw bt6 dd6 ri6 ⊢
    clear smu
    have lcz : zs.length = cs.length := by
      have := congrArg List.length em
      simpa only [List.length_map] using this
    refine for_list (K := K) (a := u) (xs := us.map V.str) (fun i σ H7 => But a H H7 ∧ Dice H7 a (n + 11 + i) ∧ H7 u = some (.lst (us.map V.str)) ∧ ∃ (y : Option V) (fr : List Rw), σ = [some (.ref a), some (.int 3), some (.ref pl), some (.ref c), y, some (.ref D)] ∧ RowsIn H7 D (zs ++ fr) ∧ fr.map (fun z => z.2.1) = us.take i ∧ ∀ z, z ∈ fr → z.2.2 ≤ 3)
      ⟨bt6, dd6, upd_same, none, [], rfl, by rw [List.append_nil]; exact ri6, by simp, fun z hz => (nomatch hz)⟩ (fun i σ H3 _ h => .inl (.inl h.2.2.1)) ?_ ?_
    · rintro i y σ H7 hi ⟨bt7, dd7, eu, y0, fr, rfl, ri7, em7, h7⟩
      rw [List.getElem?_map] at hi
      obtain ⟨x, hx, rfl⟩ := Option.map_eq_some_iff.mp hi
      have lt : i < us.length := (List.getElem?_eq_some_iff.mp hx).1
      refine ⟨_, rfl, .inl ⟨rfl, _, .inl (.inl ri7.1)⟩, _, rfl, _, rfl, a, n + 11 + i, 5, rfl, dd7, by omega, by decide, by decide, fun r8 H8 bt8 dd8 r80 r81 => ⟨r8, 2, rfl, rfl, 0, r8 - 2, rfl, 1, _, rfl, rfl, (by show 2 ≤ sizeLine; decide), fun q nq => ?_⟩⟩
      have ri8 := ri7.but bt8 dd7 nDa
      obtain ⟨k, hk, ek⟩ : ∃ k : Nat, k ≤ 3 ∧ (1 + if r8 - 2 > 0 then r8 - 2 else 0 : Int) = k := by
        refine ⟨(1 + if r8 - 2 > 0 then r8 - 2 else 0 : Int).toNat, ?_, ?_⟩ <;> split <;> omega
      dsimp only
      rw [ek]
      have smq := same_new (o := rowO (x, k)) nq
      have eq8 := smq _ _ ri8.1
      have lfr : fr.length ≤ 3 := by
        have := congrArg List.length em7
        simp only [List.length_map, List.length_take] at this
        omega
      refine ⟨D, _, .ref q, rfl, rfl, eq8, by rw [List.length_map, List.length_append]; exact small1000 (by omega), (bt7.trans (bt8.trans (But.of smq))).put nDH, ((dd8.up smq).put nDa).le (by omega), ?_, some (.str x), fr ++ [(q, (x, k))], rfl, ?_, ?_, fun z hz => ?_⟩
      · rw [upd_ne nus]
        exact smq _ _ (bt8 _ _ eu nua)
      · rw [← List.append_assoc]
        exact ri8.snoc (r := (x, k)) nq
      · rw [List.map_append, em7, List.take_add_one, hx]
        rfl
      · rcases List.mem_append.mp hz with hz | hz
        · exact h7 z hz
        · rw [List.mem_singleton.mp hz]
          exact hk
    · rintro σ H7 ⟨bt7, dd7, eu, y0, fr, rfl, ri7, em7, h7⟩
      rw [List.length_map, List.take_length] at em7
      have lfr : fr.length ≤ 3 := by
        have := congrArg List.length em7
        simp only [List.length_map] at this
        omega
      -- sorted
      have eI : ∀ l : List Rw, (l.map rowI).map Prod.fst = l.map fun z => V.ref z.1 := fun l => by rw [List.map_map]; rfl
      have eS : ∀ l : List Rw, (l.map rowI).map Prod.snd = l.map fun z => PyData.tuple [.str z.2.1, .int (z.2.2 : Int)] := fun l => by rw [List.map_map]; rfl
      refine ⟨_, rfl, D, (zs ++ fr).map rowI, rfl, by rw [eI]; exact .inl (.inl ri7.1), fun z hz => ?_, ?_, ?_, by rw [List.length_map, List.length_append]; exact Nat.le_of_lt (small1000 (by omega)), fun z hz => ?_, fun p np => ?_⟩
      · obtain ⟨z, hz2, rfl⟩ := List.mem_map.mp hz
        exact .tup (.inl (.inl (ri7.2 z hz2))) (.cons (.str _) (.cons (.int _) .nil))
      · rw [eS]
        exact PySem.W.AllAlike.of fun b b' => rfl
      · rw [eS]
        exact PySem.W.Sortable.tuples fun b => ⟨_, _, rfl⟩
      · obtain ⟨z, hz2, rfl⟩ := List.mem_map.mp hz
        show PyData.depth (.tuple [.str z.2.1, .int (z.2.2 : Int)]) ≤ 60
        simp [PyData.depth, PyData.depthAll]
      · obtain ⟨ws2, pw2, ew2⟩ := perm_back (List.mergeSort_perm ((zs ++ fr).map rowI) (PySem.W.dataLe false Prod.snd)).symm (zs ++ fr) rfl
        rw [ew2, eI]
        have npa2 := dd7.ne np
        have smp := same_new (o := .lst (ws2.map fun z => V.ref z.1)) np
        refine q p ws2 _ (bt7.trans (But.of smp)) ((dd7.up smp).le ?_) (But.free bt7 npa2 np) npa2 ⟨upd_same, fun z hz => smp _ _ (ri7.2 z (pw2.mem_iff.mp hz))⟩ ?_
        · rw [List.length_map]
          omega
        · refine Good.perm ?_ (pw2.map Prod.snd).symm
          rw [List.map_append, em]
          refine ⟨fun r hr => ?_, ?_, ?_, ?_⟩
          · rcases List.mem_append.mp hr with h | h
            · obtain ⟨x, hx, rfl⟩ := List.mem_map.mp h
              exact ⟨(hc x hx).1, Nat.zero_le _⟩
            · obtain ⟨z, hz, rfl⟩ := List.mem_map.mp h
              refine ⟨funcs_ok.2 _ (hw _ ?_), h7 z hz⟩
              rw [← em7]
              exact List.mem_map.mpr ⟨z, hz, rfl⟩
          · have inF : ∀ r, r ∈ fr.map Prod.snd → r.1 ∈ funcs := fun r hr => by
              obtain ⟨z, hz, rfl⟩ := List.mem_map.mp hr
              refine hw _ ?_
              rw [← em7]
              exact List.mem_map.mpr ⟨z, hz, rfl⟩
            have inC : ∀ r, r ∈ (cs.map fun x => ((x, 0) : NK)) → r.1 ∉ funcs ∧ r.2 = 0 := fun r hr => by
              obtain ⟨x, hx, rfl⟩ := List.mem_map.mp hr
              exact ⟨(hc x hx).2, rfl⟩
            intro r hr t ht e
            rcases List.mem_append.mp hr with h1 | h1
            · rcases List.mem_append.mp ht with h2 | h2
              · rw [(inC r h1).2, (inC t h2).2]
              · have z := (inC r h1).1
                rw [e] at z
                exact absurd (inF t h2) z
            · rcases List.mem_append.mp ht with h2 | h2
              · have z := (inC t h2).1
                rw [← e] at z
                exact absurd (inF r h1) z
              · obtain ⟨x, hx, rfl⟩ := List.mem_map.mp h1
                obtain ⟨y, hy, rfl⟩ := List.mem_map.mp h2
                rw [nodup_inj (f := fun z : Rw => z.2.1) (by rw [em7]; exact ndw) hx hy e]
          · cases cs with
            | nil =>
              simp at lc
            | cons x cs => exact ⟨(x, 0), List.mem_append_left _ (List.mem_map.mpr ⟨x, List.mem_cons_self, rfl⟩), rfl⟩
          · rw [List.length_append, List.length_map, List.length_map]
            omega
end
end K01
/-! A term of the turn. -/
namespace K01
open PySem PySem.Spec PyProof.Rows L2 Kx
/-- tuples stand -/
def Tups (H H' : Hp) : Prop := ∀ b xs, H b = some (.tup xs) → H' b = some (.tup xs)
theorem Tups.of {H H' : Hp} (x : Same H H') : Tups H H' := fun b xs h => x b _ h
theorem Tups.trans {H H1 H2 : Hp} (x : Tups H H1) (y : Tups H1 H2) : Tups H H2 := fun b xs h => y b xs (x b xs h)
theorem Tups.but {a : Addr} {n : Nat} {H H' : Hp} (x : But a H H') (d : Dice H a n) : Tups H H' := fun b xs h => by
  obtain ⟨_, _, _, z, _⟩ := d
  exact x b _ h (ne_of h z (fun e => nomatch e))
theorem Tups.lst {D : Addr} {H : Hp} {xs ys : List V} (h : H D = some (.lst xs)) : Tups H (upd H D (.lst ys)) := fun b zs e => by
  rw [upd_ne (ne_of e h (fun e => nomatch e))]
  exact e
mutual
/-- no list, no dict -/
def pureD : PyData → Bool
  | .list _ => false
  | .dict _ => false
  | .tuple ds => pureAll ds
  | _ => true
def pureAll : List PyData → Bool
  | [] => true
  | d :: ds => pureD d && pureAll ds
end
mutual
theorem Dx.ts {K : PySem.W.Frag} {H H' : Hp} (t : Tups H H') : ∀ (d : PyData) (x : V), pureD d = true → Dx K H x d → Dx K H' x d
  | .none, _, _, h => by cases h; exact .non
  | .bool b, _, _, h => by cases h; exact .bl b
  | .int i, _, _, h => by cases h; exact .int i
  | .str x, _, _, h => by cases h; exact .str x
  | .list ds, _, e, h => by cases e
  | .tuple ds, _, e, h => by cases h with | tup a b => exact .tup (t _ _ a) (DxAll.ts t ds _ (by simpa [pureD] using e) b)
  | .dict ds, _, e, h => by cases e
theorem DxAll.ts {K : PySem.W.Frag} {H H' : Hp} (t : Tups H H') : ∀ (ds : List PyData) (xs : List V), pureAll ds = true → DxAll K H xs ds → DxAll K H' xs ds
  | [], _, _, h => by cases h; exact .nil
  | d :: ds, _, e, h => by
    have e : pureD d = true ∧ pureAll ds = true := by simpa [pureAll] using e
    cases h with | cons a b => exact .cons (Dx.ts t d _ e.1 a) (DxAll.ts t ds _ e.2 b)
end
theorem pure_name {d : PyData} (h : nameD d = true) : pureD d = true := by
  cases d with
  | str x => rfl
  | _ => cases h
mutual
theorem pure_formed : ∀ (d : PyData), formedD d = true → pureD d = true
  | .none, h => rfl
  | .bool _, h => rfl
  | .int _, h => rfl
  | .str _, h => rfl
  | .list ds, h => by cases h
  | .dict ds, h => by cases h
  | .tuple [], h => rfl
  | .tuple (d :: ds), h => by
    simp only [formedD, Bool.and_eq_true] at h
    simp only [pureD, pureAll, Bool.and_eq_true]
    exact ⟨pure_name h.1.2, pure_formedAll ds h.2⟩
theorem pure_formedAll : ∀ (ds : List PyData), formedAll ds = true → pureAll ds = true
  | [], h => rfl
  | d :: ds, h => by
    simp only [formedAll, Bool.and_eq_true] at h
    simp only [pureAll, Bool.and_eq_true]
    exact ⟨pure_formed d h.1, pure_formedAll ds h.2⟩
end
theorem RowsIn.add {H : Hp} {f : Addr} {zs : List Rw} {z : Rw} (h : RowsIn H f zs) (n : H z.1 = some (rowO z.2)) : RowsIn (upd H f (.lst ((zs.map fun z => V.ref z.1) ++ [V.ref z.1]))) f (zs ++ [z]) := by
  refine ⟨by rw [upd_same, List.map_append]; rfl, fun y hy => ?_⟩
  have e : H y.1 = some (rowO y.2) := by
    rcases List.mem_append.mp hy with hy | hy
    · exact h.2 y hy
    · rw [List.mem_singleton.mp hy]
      exact n
  rw [upd_ne (ne_of e h.1 (fun e => nomatch e))]
  exact e
theorem RowsIn.off {H : Hp} {f D : Addr} {zs : List Rw} {xs ys : List V} (h : RowsIn H f zs) (e : H D = some (.lst xs)) (n : D ≠ f) : RowsIn (upd H D (.lst ys)) f zs := by
  refine ⟨by rw [upd_ne n.symm]; exact h.1, fun z hz => ?_⟩
  rw [upd_ne (ne_of (h.2 z hz) e (fun e => nomatch e))]
  exact h.2 z hz
def cost : Nat → Nat
  | 0 => 0
  | n + 1 => 2 + 3 * cost n
/-- a term with names of rs, n levels at most -/
structure Tm (rs : List NK) (n : Nat) (d : PyData) : Prop where
  fm : formedD d = true
  rw : ∀ r, r ∈ rowsD d → r ∈ rs
  dp : d.depth ≤ n
theorem formedAll_snoc {ds : List PyData} {d : PyData} : formedAll (ds ++ [d]) = (formedAll ds && formedD d) := by
  rw [formedAll_append]
  simp [formedAll]
theorem depthAll_snoc {n : Nat} : ∀ {ds : List PyData} {d : PyData}, PyData.depthAll ds ≤ n → d.depth ≤ n → PyData.depthAll (ds ++ [d]) ≤ n
  | [], d, _, h => by simpa [PyData.depthAll] using h
  | e :: ds, d, h1, h2 => by
    rw [List.cons_append, PyData.depthAll]
    rw [PyData.depthAll] at h1
    have := depthAll_snoc (ds := ds) (d := d) (n := n) (by omega) h2
    omega
section
variable {P : Program} {w : World} {K : PySem.W.Frag} {mg : Str → Option Value} {base : Heap}
def spLt (K : PySem.W.Frag) (n : Nat) : Sp := fun vs H Q _ => ∃ (a b : Addr) (m : Nat) (zs : List Rw), vs = [.ref a, .ref b, .int (n : Int)] ∧ 0 < n ∧ Dice H a m ∧ m + cost n < cap ∧ RowsIn H b zs ∧ b ≠ a ∧ Good (zs.map Prod.snd) ∧
  ∀ (x : V) (d : PyData) H', But a H H' → Dice H' a (m + cost n) → Dx K H' x d → Tm (zs.map Prod.snd) n d → Q x H'
theorem ok_lt (T : Tx K mg) : ∀ n, FnOk P w K mg base CX0 (n + 3) T.a_law_term T.d_law_term ["dice", "names", "deep"] (spLt K n)
  | 0 => by
    refine T.f_law_term.ok sc__law_term (fun vs H Q E h => ?_) (fun cdv A outer s H vs Q E hr h => ?_)
    · obtain ⟨a, b, m, zs, rfl, _⟩ := h
      rfl
    · obtain ⟨a, b, m, zs, rfl, h0, _⟩ := h
      exact absurd h0 (Nat.lt_irrefl _)
  | n + 1 => by
    have nd := sc__law_term.nd
    have G0 := ok_lt T n
    have G1 := ok_roll (P := P) (w := w) (base := base) T
    have G2 := ok_pick (P := P) (w := w) (base := base) T
    refine T.f_law_term.ok sc__law_term (fun vs H Q E h => ?_) (fun cdv A outer s H vs Q E hr h => ?_)
    · obtain ⟨a, b, m, zs, rfl, _⟩ := h
      rfl
    · obtain ⟨a, b, m, zs, rfl, _, hd, hc, ri, nba, gd, q⟩ := h
      refine ⟨_, (pss_cons (ps_setLc (i := 3) (own := [("row", 6)]) (g := (gName 6)) (by rfl) nd rfl rfl (sw_true rfl rfl rfl (by decide +kernel)) (pi_list (pv 1)) (blkOk_by (own := [("row", 6)]) (N := N__law_term) (sc := defScope s__law_term) (by decide +kernel)) (fun _ _ _ _ _ => pg_name (i := 6) nd rfl (.inl rfl)) (fun _ _ _ _ _ => (pts_one (pt_cmpR op_eq (pe_ix (r := rIxT K) ix_tup (pv 6) pe_int (fun _ _ => rfl)) pe_int (nomark _)))) (fun _ _ _ _ _ => (pv 6)))
      (C8.pss_cut (ps_if (PW.pt (pw_and (pt_cmpR op_gt (pv 2) pe_int (nomark _)) (pw_and1 (pt_cmpR op_gt (pe_call G1 (hr.mono (by omega)) (by rfl) T.g_law_roll T.f_law_roll.kp T.n_law_roll .nil pass0 (pa_cons (pv 0) (pa_cons pe_int pa_nil))) pe_int (nomark _))))) (pss_one (ps_set (i := 3) nd rfl (.inl rfl) (pv 1))) pss_nil)
      (pss_cons (ps_asg (pe_call G2 (hr.mono (by omega)) (by rfl) T.g_law_pick T.f_law_pick.kp T.n_law_pick .nil pass0 (pa_cons (pv 0) (pa_cons (pv 3) pa_nil))) (pg_tup rfl (pgs_cons (pg_name (i := 4) nd rfl (.inl rfl)) (pgs_cons (pg_name (i := 5) nd rfl (.inl rfl)) pgs_nil))))
      (pss_one (ps_ret (pe_op op_catA (pe_tup (pa_cons (pv 4) pa_nil)) (pe_callTy call_tuple_of (by rfl) T.b_tuple (by decide +kernel) (pa_cons (pe_lc (own := [("turn", 7)]) (g := (gName 7)) (tt := tYes) (by rfl) nd (pi_range1 (by rfl) T.b_range (pa_cons (pv 5) pa_nil)) (blkOk_by (own := [("turn", 7)]) (N := N__law_term) (sc := defScope s__law_term) (by decide +kernel)) (fun _ _ _ _ _ => pg_name (i := 7) nd rfl (.inl rfl)) (fun _ _ _ _ _ => pts_nil) (fun s1 H1 C1 cl1 fp1 => (pe_call G0 (hr.mono (by omega)) (by rfl) T.g_law_term T.f_law_term.kp T.n_law_term .nil pass0 (pa_cons (pv 0) (pa_cons (pv 1) (pa_cons (pe_op op_sub (pv 2) pe_int) pa_nil)))))) pa_nil)))))))), ?_⟩
      have lzs : zs.length ≤ 20 := by
        have := gd.few
        rwa [List.length_map] at this
      refine ⟨_, rfl, b, rfl, ⟨_, .inl (.inl ri.1)⟩, fun D nD => ?_⟩
      have smD := same_new (o := .lst []) nD
      have nDa := hd.ne nD
      refine lc_list (K := K) (a := b) (xs := zs.map fun z => V.ref z.1) (fun i H3 => Same H H3 ∧ ∃ ws : List Rw, RowsIn H3 D ws ∧ (∀ z, z ∈ ws → z ∈ zs ∧ z.2.2 = 0) ∧ (∀ (j : Nat) z, j < i → zs[j]? = some z → z.2.2 = 0 → z ∈ ws) ∧ ws.length ≤ i)
        ⟨smD, [], ⟨upd_same, fun z hz => (nomatch hz)⟩, fun z hz => (nomatch hz), fun j z h => absurd h (Nat.not_lt_zero _), Nat.le_refl _⟩ (fun i H3 _ h => .inl (.inl (h.1 _ _ ri.1))) ?_ ?_
      · rintro i y H3 hi ⟨sm, ws, rw3, h1, h2, l3⟩
        rw [List.getElem?_map] at hi
        obtain ⟨z, hz, rfl⟩ := Option.map_eq_some_iff.mp hi
        have lt : i < zs.length := (List.getElem?_eq_some_iff.mp hz).1
        have ez := sm _ _ (ri.2 z (List.mem_of_getElem? hz))
        refine ⟨rfl, _, rfl, z.1, _, 1, .int (z.2.2 : Int), rfl, rfl, SqT.of ez, atI_nat (j := 1) rfl, rfl, _, rfl, ite2 (fun e0 => ?_) (fun e0 => ?_)⟩
        · have z0 : z.2.2 = 0 := by
            have := of_decide_eq_true (p := V.int (z.2.2 : Int) = V.int 0) e0
            injection this with this
            exact Int.ofNat.inj this
          refine ⟨_, rfl, _, rw3.1, by rw [List.length_map]; exact small1000 (by omega), fun c o hc => ?_, ws ++ [z], rw3.add ez, fun y hy => ?_, fun j y hj hy h0 => ?_, by rw [List.length_append]; exact Nat.succ_le_succ l3⟩
          · rw [upd_ne (ne_of_none hc nD)]
            exact sm c o hc
          · rcases List.mem_append.mp hy with hy | hy
            · exact h1 y hy
            · rw [List.mem_singleton.mp hy]
              exact ⟨List.mem_of_getElem? hz, z0⟩
          · by_cases e : j = i
            · rw [e, hz] at hy
              cases hy
              exact List.mem_append_right _ (List.mem_singleton.mpr rfl)
            · exact List.mem_append_left _ (h2 j y (by omega) hy h0)
        · refine ⟨sm, ws, rw3, h1, fun j y hj hy h0 => ?_, by omega⟩
          by_cases e : j = i
          · rw [e, hz] at hy
            cases hy
            rw [h0] at e0
            exact absurd (decide_eq_true rfl) e0
          · exact h2 j y (by omega) hy h0
      rintro H3 ⟨sm, ws, rw3, h1, h2, l3⟩
      rw [List.length_map] at h2 l3
      have wne : ws ≠ [] := fun e => by
        obtain ⟨r, hr, r0⟩ := gd.cell
        obtain ⟨z, hz, rfl⟩ := List.mem_map.mp hr
        obtain ⟨j, hj⟩ := List.getElem?_of_mem hz
        have := h2 j z (List.getElem?_eq_some_iff.mp hj).1 hj r0
        rw [e] at this
        cases this
      refine ⟨fun σ' H' => But a H H' ∧ Dice H' a (m + 1) ∧ RowsIn H' b zs ∧ ∃ (s : Addr) (vs : List Rw), σ' = [some (.ref a), some (.ref b), some (.int ((n + 1 : Nat) : Int)), some (.ref s), none, none, none, none] ∧ RowsIn H' s vs ∧ s ≠ a ∧ vs ≠ [] ∧ vs.length ≤ 20 ∧ (∀ z, z ∈ vs → z ∈ zs) ∧ (n = 0 → ∀ z, z ∈ vs → z.2.2 = 0), ?_, ?_⟩
      · have stay : ∀ H', But a H3 H' → Dice H' a (m + 1) → But a H H' ∧ Dice H' a (m + 1) ∧ RowsIn H' b zs ∧ ∃ (s : Addr) (vs : List Rw), [some (V.ref a), some (.ref b), some (.int ((n + 1 : Nat) : Int)), some (.ref D), none, none, none, none] = [some (V.ref a), some (.ref b), some (.int ((n + 1 : Nat) : Int)), some (.ref s), none, none, none, none] ∧ RowsIn H' s vs ∧ s ≠ a ∧ vs ≠ [] ∧ vs.length ≤ 20 ∧ (∀ z, z ∈ vs → z ∈ zs) ∧ (n = 0 → ∀ z, z ∈ vs → z.2.2 = 0) := fun H' bt dd =>
          ⟨(But.of sm).trans bt, dd, (ri.up sm).but bt (hd.up sm) nba, D, ws, rfl, rw3.but bt (hd.up sm) nDa, nDa, wne, by omega, fun z hz => (h1 z hz).1, fun _ z hz => (h1 z hz).2⟩
        refine ⟨_, rfl, _, _, rfl, rfl, _, rfl, ite2 (fun e1 => ?_) (fun e1 => ?_)⟩
        · have n0 : n ≠ 0 := fun z => by
            have := of_decide_eq_true e1
            rw [z] at this
            exact absurd this (by decide)
          refine ⟨_, rfl, a, m, 3, rfl, hd.up sm, ?_, by decide, by decide, fun r H4 bt dd r0 r1 => ⟨_, _, rfl, rfl, _, rfl, ite2 (fun e2 => ?_) (fun e2 => ?_)⟩⟩
          · rw [cost] at hc
            omega
          · have ri4 := (ri.up sm).but bt (hd.up sm) nba
            refine ⟨_, rfl, (But.of sm).trans bt, dd, ri4, b, zs, rfl, ri4, nba, fun z => ?_, lzs, fun z hz => hz, fun z => absurd z n0⟩
            rw [z] at h1
            cases ws with
            | nil => exact wne rfl
            | cons y ws => cases (h1 y List.mem_cons_self).1
          · exact stay H4 bt dd
        · exact stay H3 (But.refl a H3) ((hd.up sm).le (Nat.le_succ m))
      rintro σ1 H5 ⟨bt5, dd5, ri5, s5, vs, rfl, rs5, ns5, vne, lvs, sub, leaf⟩
      have vp : 0 < vs.length := by
        cases vs with
        | nil => exact absurd rfl vne
        | cons _ _ => exact Nat.succ_pos _
      -- the pick
      refine ⟨_, rfl, _, rfl, a, s5, m + 1, _, rfl, dd5, ?_, .inl (.inl rs5.1), ns5, by rw [List.length_map]; exact vp, by rw [List.length_map]; omega, fun i v H6 bt6 dd6 hi => ?_⟩
      · rw [cost] at hc
        omega
      rw [List.getElem?_map] at hi
      obtain ⟨z, hz, rfl⟩ := Option.map_eq_some_iff.mp hi
      have zin := sub z (List.mem_of_getElem? hz)
      have leaf := fun e => leaf e z (List.mem_of_getElem? hz)
      have rs6 := rs5.but bt6 dd5 ns5
      have ri6 := ri5.but bt6 dd5 nba
      have ez := rs6.2 z (List.mem_of_getElem? hz)
      have gz := gd.nm z.2 (List.mem_map.mpr ⟨z, zin, rfl⟩)
      have zmem : z.2 ∈ zs.map Prod.snd := List.mem_map.mpr ⟨z, zin, rfl⟩
      have bt6 := bt5.trans bt6
      obtain ⟨za, nm, k⟩ := z
      dsimp only at gz leaf ez zmem
      refine ⟨za, _, rfl, SqT.of ez, rfl, _, _, rfl, _, _, rfl, rfl, ?_⟩
      -- the head
      refine ⟨_, rfl, (by show 1 ≤ sizeLine; decide), fun t nt => ?_⟩
      have smt := same_new (o := .tup [.str nm]) nt
      have nta := dd6.ne nt
      refine ⟨_, rfl, (k : Int), rfl, by omega, by omega, fun D2 nD2 => ?_⟩
      have smD2 := same_new (o := .lst []) nD2
      have nD2a := (dd6.up smt).ne nD2
      have btD := bt6.trans ((But.of smt).trans (But.of smD2))
      have nD2H := But.free (bt6.trans (But.of smt)) nD2a nD2
      have ek : ((k : Int)).toNat = k := Int.toNat_natCast k
      rw [ek]
      refine lc_range (fun i H7 => But a H H7 ∧ Dice H7 a (m + 2 + i * cost n) ∧ RowsIn H7 b zs ∧ H7 t = some (.tup [.str nm]) ∧ ∃ (ws : List V) (ds : List PyData), H7 D2 = some (.lst ws) ∧ DxAll K H7 ws ds ∧ ds.length = i ∧ formedAll ds = true ∧ (∀ r, r ∈ rowsAll ds → r ∈ zs.map Prod.snd) ∧ PyData.depthAll ds ≤ n)
        ⟨btD, (dd6.up (smt.trans smD2)).le (Nat.le_add_right _ _), ri6.up (smt.trans smD2), smD2 _ _ upd_same, [], [], upd_same, .nil, rfl, rfl, fun r h => (nomatch h), Nat.zero_le _⟩ ?_ ?_
      · rintro i H7 hi ⟨bt7, dd7, ri7, et7, ws7, ds7, eD7, dx7, l7, f7, r7, p7⟩
        have n0 : 0 < n := by
          cases n with
          | zero =>
            have := leaf rfl
            omega
          | succ n => exact Nat.succ_pos _
        refine ⟨rfl, (iteT (B := False) ?_ : if true = true then _ else False)⟩
        have c1 : cost (n + 1) = 2 + 3 * cost n := rfl
        have ic : i * cost n + cost n ≤ 3 * cost n := by
          have := Nat.mul_le_mul_right (cost n) (show i + 1 ≤ 3 by omega)
          rwa [Nat.add_mul, Nat.one_mul] at this
        refine ⟨_, rfl, _, rfl, _, rfl, _, _, rfl, rfl, a, b, m + 2 + i * cost n, zs, ?_, n0, dd7, by omega, ri7, nba, gd, fun x d H8 bt8 dd8 hx tm => ?_⟩
        · show [V.ref a, V.ref b, V.int (((n + 1 : Nat) : Int) - 1)] = _
          rw [show ((n + 1 : Nat) : Int) - 1 = (n : Int) by omega]
        · have ts := Tups.but bt8 dd7
          have eD8 := bt8 _ _ eD7 nD2a
          have tD : Tups H8 (upd H8 D2 (.lst (ws7 ++ [x]))) := Tups.lst eD8
          have lw := dx7.length
          refine ⟨ws7, eD8, small1000 (by omega), (bt7.trans bt8).put nD2H, (dd8.put nD2a).le (by rw [Nat.add_mul, Nat.one_mul]; omega), ?_, tD _ _ (ts _ _ et7), ws7 ++ [x], ds7 ++ [d], upd_same, DxAll.append (DxAll.ts (ts.trans tD) _ _ (pure_formedAll _ f7) dx7) (.cons (Dx.ts tD _ _ (pure_formed _ tm.fm) hx) .nil), by rw [List.length_append, l7]; rfl, by rw [formedAll_snoc, f7, tm.fm]; rfl, fun r hr => ?_, depthAll_snoc p7 tm.dp⟩
          · exact ((ri7.but bt8 dd7 nba).off eD8 (ne_of_none ri.1 nD2H).symm)
          · rw [rowsAll_append] at hr
            rcases List.mem_append.mp hr with h | h
            · exact r7 r h
            · simp only [rowsAll, List.append_nil] at h
              exact tm.rw r h
      · rintro H7 ⟨bt7, dd7, ri7, et7, ws7, ds7, eD7, dx7, l7, f7, r7, p7⟩
        have lw := dx7.length
        have c1 : cost (n + 1) = 2 + 3 * cost n := rfl
        have kc : k * cost n ≤ 3 * cost n := Nat.mul_le_mul_right (cost n) gz.2
        refine ⟨D2, ws7, rfl, .inl ⟨.inl (.inl eD7), fun u nu => ?_⟩⟩
        have smu := same_new (o := .tup ws7) nu
        have et8 := smu _ _ et7
        have dx8 := dx7.up smu
        have fm : formedD (.tuple (.str nm :: ds7)) = true := by
          simp [formedD, nameD, gz.1, f7, l7, gz.2]
        have tm : Tm (zs.map Prod.snd) (n + 1) (.tuple (.str nm :: ds7)) := by
          refine ⟨fm, fun r hr => ?_, ?_⟩
          · rw [rowsD, headD, l7] at hr
            rcases List.mem_cons.mp hr with h | h
            · rw [h]
              exact zmem
            · exact r7 r h
          · simp only [PyData.depth, PyData.depthAll]
            omega
        have bt8 := bt7.trans (But.of smu)
        have dd8 := (dd7.up smu).le (show m + 2 + k * cost n ≤ m + cost (n + 1) by omega)
        refine ⟨t, u, _, _, rfl, rfl, SqT.of et8, SqT.of upd_same, Nat.le_of_lt (small1000 (by rw [List.length_singleton]; omega)), fun z => (nomatch z), fun _ e => ?_, fun _ _ v nv => ?_⟩
        · subst e
          cases dx8
          exact q _ _ _ bt8 dd8 (.tup et8 (.cons (.str _) .nil)) tm
        · have smv := same_new (o := .tup ([V.str nm] ++ ws7)) nv
          exact q _ _ _ (bt8.trans (But.of smv)) (dd8.up smv) (.tup upd_same (.cons (.str _) (dx8.up smv))) tm
end
end K01
/-! Odd values. -/
namespace Kx
open PySem PySem.Spec PyProof.Rows L2
section
variable {K : PySem.W.Frag} {S : List Addr}
theorem mk_neg (i : Int) : Makes K S (tUn (rU fun i => .int (-i)) (tC (.int i))) (.int (-i)) := fun σ H Q _ q => ⟨i, rfl, q _ H (Same.refl H) (.int _)⟩
theorem mk_pow (i j : Int) (h : CPow i j) : Makes K S (tOp (rI CPow fun i j => .int (i ^ j.toNat)) (tC (.int i)) (tC (.int j))) (.int (i ^ j.toNat)) := fun σ H Q _ q => ⟨i, j, rfl, rfl, h, q _ H (Same.refl H) (.int _)⟩
end
end Kx
namespace K01
open PySem PySem.Spec PyProof.Rows L2 Kx
def odd1 : List PyData := [.none, .bool true, .bool false, .int 0, .int 1, .int (-7), .int (10 ^ (59 : Int).toNat), .str "", .str "A", .str "a1", .str "a b", .str "abcdefghi", .str "a(b)", .tuple [], .list [], .dict [], .list [.str "a"]]
def odd2 : List PyData := [.tuple [.str "a", .str "b"], .tuple [.str "a", .tuple []], .tuple [.str ""], .tuple [.str "A"], .tuple [.str "abcdefghi"], .tuple [.tuple [.str "a"]], .tuple [.str "a", .list [.str "b"]]]
def odd3 : List PyData := [.tuple [.str "f", .tuple [.str "a"], .tuple [.str "b"], .tuple [.str "c"], .tuple [.str "d"]], .tuple [.str "f", .tuple [.str "f"]], .tuple [.str "g", .tuple [.str "a"], .tuple [.str "g"]]]
def odd4 : List PyData := [.tuple [.str "a", .none], .tuple [.int 1], .list [.tuple [.str "a"]], .dict [(.str "a", .int 1)]]
def odds : List PyData := odd1 ++ odd2 ++ odd3 ++ odd4
mutual
/-- how many tuples -/
def wD : PyData → Nat
  | .tuple ds => wAll ds + 1
  | _ => 0
def wAll : List PyData → Nat
  | [] => 0
  | d :: ds => wD d + wAll ds
end
/-- what the tests of the law need of a value -/
structure Mild (d : PyData) (k w l : Nat) : Prop where
  short : shortD d = true
  sw : d.showable = true
  dl : d.hasDict = true → noL d = true
  dp : d.depth ≤ k
  wd : wD d ≤ w
  ln : d.shown.length ≤ l
theorem odds_mild : ∀ d, d ∈ odds → Mild d 3 5 100 := by
  have e : (odds.all fun d => shortD d && d.showable && (!d.hasDict || noL d) && decide (d.depth ≤ 3) && decide (wD d ≤ 5) && decide (d.shown.length ≤ 100)) = true := by decide +kernel
  intro d hd
  have z := List.all_eq_true.mp e d hd
  simp only [Bool.and_eq_true, Bool.or_eq_true, Bool.not_eq_true', decide_eq_true_eq] at z
  obtain ⟨⟨⟨⟨⟨h1, h2⟩, h3⟩, h4⟩, h5⟩, h6⟩ := z
  refine ⟨h1, h2, fun e => ?_, h4, h5, h6⟩
  rcases h3 with h3 | h3
  · rw [e] at h3
    cases h3
  · exact h3
section
variable {P : Program} {w : World} {K : PySem.W.Frag} {mg : Str → Option Value} {base : Heap}
def spOdd (K : PySem.W.Frag) : Sp := fun vs H Q _ => ∃ (a : Addr) (n : Nat) (S : List Addr), vs = [.ref a] ∧ Dice H a n ∧ n + 1 < cap ∧ a ∈ S ∧ Olds S H ∧
  ∀ (x : V) (d : PyData) H', But a H H' → Dice H' a (n + 1) → Dx K (OffS S H') x d → d ∈ odds → Q x H'
theorem ok_odd (T : Tx K mg) : FnOk P w K mg base CX0 3 T.a_law_odd T.d_law_odd ["dice"] (spOdd K) := by
  have nd := sc__law_odd.nd
  have G := ok_pick (P := P) (w := w) (base := base) T
  refine T.f_law_odd.ok sc__law_odd (fun vs H Q E h => ?_) (fun cdv A outer s H vs Q E hr h => ?_)
  · obtain ⟨a, n, S, rfl, _⟩ := h
    rfl
  · obtain ⟨a, n, S, rfl, hd, hn, aS, old, q⟩ := h
    refine ⟨_, (pss_cons (ps_set (i := 1) nd rfl (.inl rfl) (pe_lst (pa_cons pe_non (pa_cons pe_bl (pa_cons pe_bl (pa_cons pe_int (pa_cons pe_int (pa_cons (pe_un un_neg pe_int) (pa_cons (pe_op op_pow pe_int pe_int) (pa_cons pe_str (pa_cons pe_str (pa_cons pe_str (pa_cons pe_str (pa_cons pe_str (pa_cons pe_str (pa_cons (pe_tup pa_nil) (pa_cons (pe_lst pa_nil) (pa_cons pe_dnewK (pa_cons (pe_lst (pa_cons pe_str pa_nil)) pa_nil)))))))))))))))))))
      (pss_cons (ps_set (i := 1) nd rfl (.inl rfl) (pe_op op_cat (pv 1) (pe_lst (pa_cons (pe_tup (pa_cons pe_str (pa_cons pe_str pa_nil))) (pa_cons (pe_tup (pa_cons pe_str (pa_cons (pe_tup pa_nil) pa_nil))) (pa_cons (pe_tup (pa_cons pe_str pa_nil)) (pa_cons (pe_tup (pa_cons pe_str pa_nil)) (pa_cons (pe_tup (pa_cons pe_str pa_nil)) (pa_cons (pe_tup (pa_cons (pe_tup (pa_cons pe_str pa_nil)) pa_nil)) (pa_cons (pe_tup (pa_cons pe_str (pa_cons (pe_lst (pa_cons pe_str pa_nil)) pa_nil))) pa_nil))))))))))
      (pss_cons (ps_set (i := 1) nd rfl (.inl rfl) (pe_op op_cat (pv 1) (pe_lst (pa_cons (pe_tup (pa_cons pe_str (pa_cons (pe_tup (pa_cons pe_str pa_nil)) (pa_cons (pe_tup (pa_cons pe_str pa_nil)) (pa_cons (pe_tup (pa_cons pe_str pa_nil)) (pa_cons (pe_tup (pa_cons pe_str pa_nil)) pa_nil)))))) (pa_cons (pe_tup (pa_cons pe_str (pa_cons (pe_tup (pa_cons pe_str pa_nil)) pa_nil))) (pa_cons (pe_tup (pa_cons pe_str (pa_cons (pe_tup (pa_cons pe_str pa_nil)) (pa_cons (pe_tup (pa_cons pe_str pa_nil)) pa_nil)))) pa_nil))))))
      (pss_cons (ps_set (i := 1) nd rfl (.inl rfl) (pe_op op_cat (pv 1) (pe_lst (pa_cons (pe_tup (pa_cons pe_str (pa_cons pe_non pa_nil))) (pa_cons (pe_tup (pa_cons pe_int pa_nil)) (pa_cons (pe_lst (pa_cons (pe_tup (pa_cons pe_str pa_nil)) pa_nil)) (pa_cons (pe_disp (pps_cons pe_str pe_int pps_nil) (by rfl) (by rfl) (fun z => by cases z) (by decide)) pa_nil)))))))
      (pss_one (ps_ret (pe_call G (hr.mono (by decide)) (by rfl) T.g_law_pick T.f_law_pick.kp T.n_law_pick .nil pass0 (pa_cons (pv 0) (pa_cons (pv 1) pa_nil))))))))), ?_⟩
    refine asg_mk (K := K) (S := S) (d := .list odd1) (mk_lst (mk_cons mk_non (mk_cons (mk_bl _) (mk_cons (mk_bl _) (mk_cons (mk_int _) (mk_cons (mk_int _) (mk_cons (mk_neg _) (mk_cons (mk_pow _ _ ⟨by decide, by decide, by decide⟩) (mk_cons (mk_str _) (mk_cons (mk_str _) (mk_cons (mk_str _) (mk_cons (mk_str _) (mk_cons (mk_str _) (mk_cons (mk_str _) (mk_cons (mk_tup mk_nil) (mk_cons (mk_lst mk_nil) (mk_cons mk_dic0 (mk_cons (mk_lst (mk_cons (mk_str _) mk_nil)) mk_nil)))))))))))))))))) old fun x1 H1 s1 d1 => ?_
    refine cat_mk (es := odd2) (rfl : _ = some (some x1)) d1 (mk_lst (mk_cons (mk_tup (mk_cons (mk_str _) (mk_cons (mk_str _) mk_nil))) (mk_cons (mk_tup (mk_cons (mk_str _) (mk_cons (mk_tup mk_nil) mk_nil))) (mk_cons (mk_tup (mk_cons (mk_str _) mk_nil)) (mk_cons (mk_tup (mk_cons (mk_str _) mk_nil)) (mk_cons (mk_tup (mk_cons (mk_str _) mk_nil)) (mk_cons (mk_tup (mk_cons (mk_tup (mk_cons (mk_str _) mk_nil)) mk_nil)) (mk_cons (mk_tup (mk_cons (mk_str _) (mk_cons (mk_lst (mk_cons (mk_str _) mk_nil)) mk_nil))) mk_nil)))))))) (by decide) (old.up s1) fun x2 H2 s2 d2 => ?_
    have s2 := s1.trans s2
    refine cat_mk (es := odd3) (rfl : _ = some (some x2)) d2 (mk_lst (mk_cons (mk_tup (mk_cons (mk_str _) (mk_cons (mk_tup (mk_cons (mk_str _) mk_nil)) (mk_cons (mk_tup (mk_cons (mk_str _) mk_nil)) (mk_cons (mk_tup (mk_cons (mk_str _) mk_nil)) (mk_cons (mk_tup (mk_cons (mk_str _) mk_nil)) mk_nil)))))) (mk_cons (mk_tup (mk_cons (mk_str _) (mk_cons (mk_tup (mk_cons (mk_str _) mk_nil)) mk_nil))) (mk_cons (mk_tup (mk_cons (mk_str _) (mk_cons (mk_tup (mk_cons (mk_str _) mk_nil)) (mk_cons (mk_tup (mk_cons (mk_str _) mk_nil)) mk_nil)))) mk_nil)))) (by decide) (old.up s2) fun x3 H3 s3 d3 => ?_
    have s3 := s2.trans s3
    refine cat_mk (es := odd4) (rfl : _ = some (some x3)) d3 (mk_lst (mk_cons (mk_tup (mk_cons (mk_str _) (mk_cons mk_non mk_nil))) (mk_cons (mk_tup (mk_cons (mk_int _) mk_nil)) (mk_cons (mk_lst (mk_cons (mk_tup (mk_cons (mk_str _) mk_nil)) mk_nil)) (mk_cons (mk_dic1 _ _) mk_nil))))) (by decide) (old.up s3) fun x4 H4 s4 d4 => ?_
    have s4 := s3.trans s4
    cases d4 with
    | @lst b xs _ hb hx =>
    obtain ⟨nb, eb⟩ := OffS.of hb
    have ln := hx.length
    refine ⟨_, rfl, _, rfl, a, b, n, xs, rfl, hd.up s4, by omega, .inl (.inl eb), fun e => nb (by rw [e]; exact aS), by rw [ln]; decide, by rw [ln]; decide, fun i v H' bt dd hi => ?_⟩
    have lt : i < (odd1 ++ odd2 ++ odd3 ++ odd4).length := by
      rw [← ln]
      exact (List.getElem?_eq_some_iff.mp hi).1
    obtain ⟨v2, hv, dv⟩ := hx.get (List.getElem?_eq_getElem lt)
    rw [hi] at hv
    cases hv
    refine q v _ H' ((But.of s4).trans bt) dd (dv.up fun c o hc => ?_) (List.getElem_mem lt)
    obtain ⟨nc, hc⟩ := OffS.of hc
    exact OffS.out nc (bt c o hc (fun e => nc (by rw [e]; exact aS)))
end
end K01
/-! Measures of terms; slices and sums of tuples as data. -/
namespace Kx
open PySem PySem.Spec PyProof.Rows L2
section
variable {K : PySem.W.Frag} {S : List Addr} {H : Hp} {x y : V} {ds es : List PyData} {Q : VK}
theorem sl_upto {i : Nat} (hx : Dx K (OffS S H) x (.tuple ds)) (o : Olds S H) (q : ∀ y H', Same H H' → Dx K (OffS S H') y (.tuple (ds.take i)) → Q y H') : rSlA K x none (some (i : Int)) H Q := by
  cases hx with
  | @tup a xs _ ha hs =>
  refine ⟨a, xs, rfl, SqT.of (OffS.all _ _ ha), fun z => ?_, fun _ p np => ?_⟩
  · have e : min i xs.length = xs.length := by
      have := z.2
      rwa [show HT.sIx xs.length xs.length (some (i : Int)) = min i xs.length from HT.sIx_nat xs.length xs.length i] at this
    refine q _ _ (Same.refl H) ?_
    rw [List.take_of_length_le (by rw [← hs.length]; omega)]
    exact .tup ha hs
  · have e : cutV xs none (some (i : Int)) = xs.take i := by
      unfold cutV
      rw [show HT.sIx xs.length xs.length (some (i : Int)) = min i xs.length from HT.sIx_nat xs.length xs.length i, show HT.sIx xs.length 0 none = 0 from rfl, List.drop_zero, Nat.sub_zero]
      by_cases e : i ≤ xs.length
      · rw [Nat.min_eq_left e]
      · rw [Nat.min_eq_right (by omega), List.take_length, List.take_of_length_le (by omega)]
    rw [e]
    exact q _ _ (same_put np) (.tup (OffS.out (o.new np) upd_same) ((hs.take i).up (OffS.same (same_put np))))
theorem sl_from {i : Nat} (hx : Dx K (OffS S H) x (.tuple ds)) (o : Olds S H) (q : ∀ y H', Same H H' → Dx K (OffS S H') y (.tuple (ds.drop i)) → Q y H') : rSlA K x (some (i : Int)) none H Q := by
  cases hx with
  | @tup a xs _ ha hs =>
  refine ⟨a, xs, rfl, SqT.of (OffS.all _ _ ha), fun z => ?_, fun _ p np => ?_⟩
  · have e : min i xs.length = 0 := by
      have := z.1
      rwa [show HT.sIx xs.length 0 (some (i : Int)) = min i xs.length from HT.sIx_nat xs.length 0 i] at this
    refine q _ _ (Same.refl H) ?_
    by_cases h : i = 0
    · rw [h, List.drop_zero]
      exact .tup ha hs
    · have : ds = [] := List.eq_nil_of_length_eq_zero (by rw [← hs.length]; omega)
      rw [this] at hs ⊢
      rw [List.drop_nil]
      exact .tup ha hs
  · have e : cutV xs (some (i : Int)) none = xs.drop i := by
      unfold cutV
      rw [show HT.sIx xs.length 0 (some (i : Int)) = min i xs.length from HT.sIx_nat xs.length 0 i, HT.sIx_none]
      by_cases e : i ≤ xs.length
      · rw [Nat.min_eq_left e, List.take_of_length_le (by rw [List.length_drop]; omega)]
      · rw [Nat.min_eq_right (by omega), Nat.sub_self, List.take_zero, List.drop_eq_nil_of_le (by omega)]
    rw [e]
    exact q _ _ (same_put np) (.tup (OffS.out (o.new np) upd_same) ((hs.drop i).up (OffS.same (same_put np))))
theorem cat_tups (hx : Dx K (OffS S H) x (.tuple ds)) (hy : Dx K (OffS S H) y (.tuple es)) (o : Olds S H) (few : ds.length + es.length ≤ sizeLine) (q : ∀ z H', Same H H' → Dx K (OffS S H') z (.tuple (ds ++ es)) → Q z H') : rCatA K x y H Q := by
  cases hx with
  | @tup a xs _ ha hs =>
  cases hy with
  | @tup b ys _ hb ht =>
  refine ⟨a, b, xs, ys, rfl, rfl, SqT.of (OffS.all _ _ ha), SqT.of (OffS.all _ _ hb), by rw [hs.length, ht.length]; exact few, fun e => ?_, fun _ e => ?_, fun _ _ p np => ?_⟩
  · subst e
    cases hs
    exact q _ _ (Same.refl H) (.tup hb ht)
  · subst e
    cases ht
    rw [List.append_nil] at q
    exact q _ _ (Same.refl H) (.tup ha hs)
  · exact q _ _ (same_put np) (.tup (OffS.out (o.new np) upd_same) (DxAll.append (hs.up (OffS.same (same_put np))) (ht.up (OffS.same (same_put np)))))
end
end Kx
namespace K01
open PySem PySem.Spec PyProof.Rows L2 Kx
theorem nm_ok {x : Str} (h : isNm x = true) : PyData.strOk x = true ∧ (reprText x).length ≤ 82 ∧ x.length ≤ 8 := by
  simp only [isNm, Bool.and_eq_true, decide_eq_true_eq] at h
  obtain ⟨⟨_, h8⟩, hl⟩ := h
  have each : ∀ c, c ∈ x.cps.toList → c ≤ 122 := fun c hc => by
    have := (Array.all_eq_true'.mp hl) c (Array.mem_toList_iff.mp hc)
    simp only [letter, Bool.and_eq_true, decide_eq_true_eq] at this
    exact this.2
  have r := StrLaws.reprText_len x (fun c hc => Nat.lt_of_le_of_lt (each c hc) (by decide))
  refine ⟨Array.all_eq_true'.mpr fun c hc => ?_, by omega, h8⟩
  have := each c (Array.mem_toList_iff.mpr hc)
  exact decide_eq_true (by omega)
def nd' : Nat → Nat
  | 0 => 0
  | n + 1 => 1 + 3 * nd' n
def sn : Nat → Nat
  | 0 => 0
  | n + 1 => 87 + 3 * (sn n + 2)
/-- what a formed datum is otherwise -/
structure Plain (d : PyData) : Prop where
  pure : pureD d = true
  short : shortD d = true
  sw : d.showable = true
  lay : d.canLay0 = true
  hd : d.hasDict = false
  nl : noL d = true
structure Plains (ds : List PyData) : Prop where
  pure : pureAll ds = true
  short : shortAll ds = true
  sw : PyData.showableAll ds = true
  lay : PyData.canLayAll0 ds = true
  hd : PyData.hasDictAll ds = false
  nl : noLs ds = true
theorem Plains.cons {d : PyData} {ds : List PyData} (h : Plain d) (t : Plains ds) : Plains (d :: ds) :=
  ⟨by simp [pureAll, h.pure, t.pure], by simp [shortAll, h.short, t.short], by simp [PyData.showableAll, h.sw, t.sw], by simp [PyData.canLayAll0, h.lay, t.lay], by simp [PyData.hasDictAll, h.hd, t.hd], by simp [noLs, h.nl, t.nl]⟩
theorem Plains.tup {ds : List PyData} (t : Plains ds) : Plain (.tuple ds) :=
  ⟨by simp [pureD, t.pure], by simp [shortD, t.short], by simp [PyData.showable, t.sw], by simp [PyData.canLay0, t.lay], by simp [PyData.hasDict, t.hd], by simp [noL, t.nl]⟩
theorem plain_name {d : PyData} (h : nameD d = true) : Plain d := by
  cases d with
  | str x =>
    have n := nm_ok (x := x) h
    exact ⟨rfl, by simp [shortD]; omega, rfl, by simp [PyData.canLay0, n.1], rfl, rfl⟩
  | _ => cases h
mutual
theorem plain_formed : ∀ d : PyData, formedD d = true → Plain d
  | .none, h => by cases h
  | .bool _, h => by cases h
  | .int _, h => by cases h
  | .str _, h => by cases h
  | .list _, h => by cases h
  | .dict _, h => by cases h
  | .tuple [], h => by cases h
  | .tuple (d :: ds), h => by
    simp only [formedD, Bool.and_eq_true] at h
    exact (Plains.cons (plain_name h.1.2) (plains_formed ds h.2)).tup
theorem plains_formed : ∀ ds : List PyData, formedAll ds = true → Plains ds
  | [], _ => ⟨rfl, rfl, rfl, rfl, rfl, rfl⟩
  | d :: ds, h => by
    simp only [formedAll, Bool.and_eq_true] at h
    exact Plains.cons (plain_formed d h.1) (plains_formed ds h.2)
end
theorem tup_len (ds : List PyData) : (PyData.tuple ds).shown.length ≤ piled (PyData.shownAll ds) + 3 := by
  simp only [PyData.shown]
  generalize PyData.shownAll ds = ts
  have last : ((if ts.length == 1 then ",)" else ")" : String) : Str).length ≤ 2 := by split <;> decide
  have all : (tupleText ts).length = 1 + (Str.join ", " ts).length + ((if ts.length == 1 then ",)" else ")" : String) : Str).length := by
    unfold tupleText
    rw [strLen_append, strLen_append]
    rfl
  rw [all]
  cases ts with
  | nil =>
    rw [show (Str.join ", " []).length = 0 from rfl]
    omega
  | cons t r =>
    have := join_length_add (t :: r) (by simp)
    omega
theorem lst_len (ds : List PyData) : (PyData.list ds).shown.length ≤ piled (PyData.shownAll ds) + 3 := by
  simp only [PyData.shown]
  generalize PyData.shownAll ds = ts
  have all : (listText ts).length = (textFrom 0 "[" ts).length + 1 := by
    unfold listText
    rw [strLen_append]
    rfl
  rw [all]
  cases ts with
  | nil =>
    rw [show (textFrom 0 "[" []).length = 1 from rfl]
    omega
  | cons t r =>
    have step : textFrom 0 "[" (t :: r) = textFrom 1 ("[" ++ (if (0 : Nat) > 0 then ", " else "" : String) ++ t) r := rfl
    rw [step, textFrom_length_pos r 1 _ Nat.one_pos, strLen_append, strLen_append, piled_cons, show (("[" : String) : Str).length = 1 from rfl]
    have : ((if (0 : Nat) > 0 then ", " else "" : String) : Str).length = 0 := rfl
    omega
mutual
theorem size_formed : ∀ (d : PyData) (n : Nat), formedD d = true → d.depth ≤ n → wD d ≤ nd' n ∧ d.shown.length ≤ sn n
  | .none, _, h, _ => by cases h
  | .bool _, _, h, _ => by cases h
  | .int _, _, h, _ => by cases h
  | .str _, _, h, _ => by cases h
  | .list _, _, h, _ => by cases h
  | .dict _, _, h, _ => by cases h
  | .tuple [], _, h, _ => by cases h
  | .tuple (d :: ds), 0, h, hd => by simp [PyData.depth] at hd
  | .tuple (d :: ds), n + 1, h, hd => by
    simp only [formedD, Bool.and_eq_true, decide_eq_true_eq] at h
    obtain ⟨⟨h3, hn⟩, hf⟩ := h
    have dd : PyData.depthAll ds ≤ n := by
      simp only [PyData.depth, PyData.depthAll] at hd
      omega
    obtain ⟨w1, w2⟩ := size_formedAll ds n hf dd
    have t1 := tup_len (d :: ds)
    have m1 := Nat.mul_le_mul_right (nd' n) h3
    have m2 := Nat.mul_le_mul_right (sn n + 2) h3
    cases d with
    | str x =>
      have nx := nm_ok (x := x) hn
      rw [PyData.shownAll, piled_cons] at t1
      simp only [PyData.shown] at t1 ⊢
      simp only [wD, wAll, nd', sn]
      omega
    | _ => cases hn
theorem size_formedAll : ∀ (ds : List PyData) (n : Nat), formedAll ds = true → PyData.depthAll ds ≤ n → wAll ds ≤ ds.length * nd' n ∧ piled (PyData.shownAll ds) ≤ ds.length * (sn n + 2)
  | [], n, _, _ => ⟨by simp [wAll], by simp [PyData.shownAll, piled]⟩
  | d :: ds, n, h, hd => by
    simp only [formedAll, Bool.and_eq_true] at h
    simp only [PyData.depthAll] at hd
    obtain ⟨a1, a2⟩ := size_formed d n h.1 (by omega)
    obtain ⟨b1, b2⟩ := size_formedAll ds n h.2 (by omega)
    rw [PyData.shownAll, piled_cons, wAll, List.length_cons, Nat.add_mul, Nat.add_mul, Nat.one_mul, Nat.one_mul]
    omega
end
end K01
/-! Terms bent. -/
namespace K01
open PySem PySem.Spec PyProof.Rows L2 Kx
theorem plains_iff : ∀ {ds : List PyData}, Plains ds ↔ ∀ d, d ∈ ds → Plain d
  | [] => ⟨fun _ _ h => (nomatch h), fun _ => ⟨rfl, rfl, rfl, rfl, rfl, rfl⟩⟩
  | e :: ds => by
    constructor
    · rintro ⟨h1, h2, h3, h4, h5, h6⟩ d hd
      simp only [pureAll, shortAll, PyData.showableAll, PyData.canLayAll0, PyData.hasDictAll, noLs, Bool.and_eq_true, Bool.or_eq_false_iff] at h1 h2 h3 h4 h5 h6
      rcases List.mem_cons.mp hd with rfl | hd
      · exact ⟨h1.1, h2.1, h3.1, h4.1, h5.1, h6.1⟩
      · exact plains_iff.mp ⟨h1.2, h2.2, h3.2, h4.2, h5.2, h6.2⟩ d hd
    · exact fun h => Plains.cons (h e List.mem_cons_self) (plains_iff.mpr fun d hd => h d (List.mem_cons_of_mem _ hd))
theorem Plains.take {ds : List PyData} (h : Plains ds) (i : Nat) : Plains (ds.take i) := plains_iff.mpr fun d hd => plains_iff.mp h d (List.mem_of_mem_take hd)
theorem Plains.drop {ds : List PyData} (h : Plains ds) (i : Nat) : Plains (ds.drop i) := plains_iff.mpr fun d hd => plains_iff.mp h d (List.mem_of_mem_drop hd)
theorem Plain.tup {ds : List PyData} (h : Plain (.tuple ds)) : Plains ds := by
  obtain ⟨h1, h2, h3, h4, h5, h6⟩ := h
  exact ⟨by simpa [pureD] using h1, by simpa [shortD] using h2, by simpa [PyData.showable] using h3, by simpa [PyData.canLay0] using h4, by simpa [PyData.hasDict] using h5, by simpa [noL] using h6⟩
abbrev pl (ds : List PyData) : Nat := piled (PyData.shownAll ds)
theorem pl_append : ∀ (xs ys : List PyData), pl (xs ++ ys) = pl xs + pl ys
  | [], ys => by simp [pl, PyData.shownAll, piled]
  | x :: xs, ys => by
    have := pl_append xs ys
    simp only [pl, List.cons_append, PyData.shownAll, piled_cons] at this ⊢
    omega
theorem wAll_append : ∀ (xs ys : List PyData), wAll (xs ++ ys) = wAll xs + wAll ys
  | [], ys => by simp [wAll]
  | x :: xs, ys => by
    rw [List.cons_append, wAll, wAll, wAll_append xs ys, Nat.add_assoc]
theorem shAll_append : ∀ (xs ys : List PyData), PyData.showableAll (xs ++ ys) = (PyData.showableAll xs && PyData.showableAll ys)
  | [], ys => by simp [PyData.showableAll]
  | x :: xs, ys => by
    rw [List.cons_append, PyData.showableAll, PyData.showableAll, shAll_append xs ys, Bool.and_assoc]
theorem hdAll_append : ∀ (xs ys : List PyData), PyData.hasDictAll (xs ++ ys) = (PyData.hasDictAll xs || PyData.hasDictAll ys)
  | [], ys => by simp [PyData.hasDictAll]
  | x :: xs, ys => by
    rw [List.cons_append, PyData.hasDictAll, PyData.hasDictAll, hdAll_append xs ys, Bool.or_assoc]
theorem noLs_append : ∀ (xs ys : List PyData), noLs (xs ++ ys) = (noLs xs && noLs ys)
  | [], ys => by simp [noLs]
  | x :: xs, ys => by
    rw [List.cons_append, noLs, noLs, noLs_append xs ys, Bool.and_assoc]
theorem dpAll_append : ∀ (xs ys : List PyData), PyData.depthAll (xs ++ ys) = max (PyData.depthAll xs) (PyData.depthAll ys)
  | [], ys => by simp [PyData.depthAll]
  | x :: xs, ys => by
    rw [List.cons_append, PyData.depthAll, PyData.depthAll, dpAll_append xs ys, Nat.max_assoc]
/-- the same of a row of values -/
structure Milds (es : List PyData) (k w l : Nat) : Prop where
  short : shortAll es = true
  sw : PyData.showableAll es = true
  dl : PyData.hasDictAll es = true → noLs es = true
  dp : PyData.depthAll es ≤ k
  wd : wAll es ≤ w
  ln : pl es ≤ l
theorem Plains.milds {ds : List PyData} (h : Plains ds) : Milds ds (PyData.depthAll ds) (wAll ds) (pl ds) :=
  ⟨h.short, h.sw, fun _ => h.nl, Nat.le_refl _, Nat.le_refl _, Nat.le_refl _⟩
theorem Mild.le {d : PyData} {k w l k' w' l' : Nat} (h : Mild d k w l) (a : k ≤ k') (b : w ≤ w') (c : l ≤ l') : Mild d k' w' l' :=
  ⟨h.short, h.sw, h.dl, Nat.le_trans h.dp a, Nat.le_trans h.wd b, Nat.le_trans h.ln c⟩
/-- one value among plain ones -/
theorem Mild.among {xs ys : List PyData} {e : PyData} {k w l : Nat} (hx : Plains xs) (hy : Plains ys) (h : Mild e k w l) : Mild (.tuple (xs ++ [e] ++ ys)) (max (max (PyData.depthAll xs) k) (PyData.depthAll ys) + 1) (wAll xs + w + wAll ys + 1) (pl xs + (l + 2) + pl ys + 3) := by
  have z := h.dp
  have z2 := h.wd
  have z3 := h.ln
  have one : pl [e] = e.shown.length + 2 := by simp [pl, PyData.shownAll, piled]
  refine ⟨?_, ?_, fun u => ?_, ?_, ?_, ?_⟩
  · rw [shortD, shortAll_append, shortAll_append]
    simp [shortAll, hx.short, hy.short, h.short]
  · rw [PyData.showable, shAll_append, shAll_append]
    simp [PyData.showableAll, hx.sw, hy.sw, h.sw]
  · rw [PyData.hasDict, hdAll_append, hdAll_append, hx.hd, hy.hd] at u
    rw [noL, noLs_append, noLs_append, hx.nl, hy.nl]
    simp only [PyData.hasDictAll, Bool.or_false, Bool.false_or] at u
    simp [noLs, h.dl u]
  · rw [PyData.depth, dpAll_append, dpAll_append]
    simp only [PyData.depthAll]
    omega
  · rw [wD, wAll_append, wAll_append]
    simp only [wAll]
    omega
  · have := tup_len (xs ++ [e] ++ ys)
    have s : piled (PyData.shownAll (xs ++ [e] ++ ys)) = pl xs + pl [e] + pl ys := by
      show pl (xs ++ [e] ++ ys) = _
      rw [pl_append, pl_append]
    omega
theorem Plain.mild {d : PyData} (h : Plain d) : Mild d d.depth (wD d) d.shown.length := ⟨h.short, h.sw, fun _ => h.nl, Nat.le_refl _, Nat.le_refl _, Nat.le_refl _⟩
theorem split_at {ds : List PyData} {i : Nat} {d : PyData} (h : ds[i]? = some d) : ds = ds.take i ++ [d] ++ ds.drop (i + 1) := by
  have lt := (List.getElem?_eq_some_iff.mp h).1
  have e : ds[i] = d := by
    rw [List.getElem?_eq_getElem lt] at h
    exact Option.some.inj h
  rw [List.append_assoc, ← e, List.singleton_append, ← List.drop_eq_getElem_cons lt, List.take_append_drop]
end K01
/-! Terms bent: the def. -/
namespace K01
open PySem PySem.Spec PyProof.Rows L2 Kx
def base5 : List PyData := [.str "a", .str "f", .tuple [.str "a"], .tuple [.str "f", .tuple [.str "a"]], .str "zzzzzzzz"]
theorem base5_mild : ∀ d, d ∈ base5 → Mild d 3 5 100 := by
  have e : (base5.all fun d => shortD d && d.showable && (!d.hasDict || noL d) && decide (d.depth ≤ 3) && decide (wD d ≤ 5) && decide (d.shown.length ≤ 100)) = true := by decide +kernel
  intro d hd
  have z := List.all_eq_true.mp e d hd
  simp only [Bool.and_eq_true, Bool.or_eq_true, Bool.not_eq_true', decide_eq_true_eq] at z
  obtain ⟨⟨⟨⟨⟨h1, h2⟩, h3⟩, h4⟩, h5⟩, h6⟩ := z
  refine ⟨h1, h2, fun e => ?_, h4, h5, h6⟩
  rcases h3 with h3 | h3
  · rw [e] at h3
    cases h3
  · exact h3
theorem Plains.app {xs ys : List PyData} (hx : Plains xs) (hy : Plains ys) : Plains (xs ++ ys) := plains_iff.mpr fun d hd => by
  rcases List.mem_append.mp hd with h | h
  · exact plains_iff.mp hx d h
  · exact plains_iff.mp hy d h
theorem pl_le (es : List PyData) : pl es ≤ (PyData.tuple es).shown.length := by
  simp only [PyData.shown]
  exact piled_le_tupleText _
theorem few8 {es : List PyData} {i j : Nat} (h : es.length ≤ 4) : (es.take i).length + (es.drop j).length ≤ sizeLine := by
  rw [List.length_take, List.length_drop]
  exact Nat.le_of_lt (small1000 (by omega))
theorem few9 {es : List PyData} {i j : Nat} {e : PyData} (h : es.length ≤ 4) : (es.take i ++ [e]).length + (es.drop j).length ≤ sizeLine := by
  rw [List.length_append, List.length_take, List.length_drop, List.length_singleton]
  exact Nat.le_of_lt (small1000 (by omega))
theorem few5 {es : List PyData} {i : Nat} {e : PyData} (h : es.length ≤ 4) : (es.take i).length + [e].length ≤ sizeLine := by
  rw [List.length_take, List.length_singleton]
  exact Nat.le_of_lt (small1000 (by omega))
/-- the parts of a whole of four levels at most -/
theorem part_of {nm : Str} {ds : List PyData} {i : Nat} {c : PyData} (hn : isNm nm = true) (hf : formedAll ds = true) (hd : PyData.depthAll ds ≤ 3) (h : (PyData.str nm :: ds)[i]? = some c) :
    (formedD c = true ∨ nameD c = true) ∧ c.depth ≤ PyData.depthAll ds ∧ wD c ≤ 13 ∧ c.shown.length ≤ 1209 := by
  cases i with
  | zero =>
    simp at h
    rw [← h]
    have := (nm_ok hn).2.1
    exact ⟨.inr hn, Nat.zero_le _, Nat.zero_le _, by simp only [PyData.shown]; omega⟩
  | succ i =>
    have h : ds[i]? = some c := by simpa using h
    have f := formedAll_get hf h
    have d := depthAll_get h
    have z := size_formed c 3 f (by omega)
    exact ⟨.inl f, d, z.1, z.2⟩
theorem olds_but {S : List Addr} {H H' : Hp} {a : Addr} {n : Nat} (h : Olds S H) (x : But a H H') (d : Dice H' a n) : Olds S H' := fun b hb z => by
  by_cases e : b = a
  · obtain ⟨_, _, _, k, _⟩ := d
    rw [e, k] at z
    cases z
  · cases k : H b with
    | none => exact h b hb k
    | some o =>
      rw [x b o k e] at z
      cases z
theorem But.offs {S : List Addr} {H H' : Hp} {a : Addr} (h : But a H H') (aS : a ∈ S) : Same (OffS S H) (OffS S H') := fun b o e => by
  obtain ⟨n, e⟩ := OffS.of e
  exact OffS.out n (h b o e (fun z => n (by rw [z]; exact aS)))
section
variable {P : Program} {w : World} {K : PySem.W.Frag} {mg : Str → Option Value} {base : Heap}
theorem fn_none {k : Nat} {f : Addr} {fd : FuncData} {ps : List Str} : FnOk P w K mg base CX0 k f fd ps (fun _ _ _ _ => False) := ⟨fun _ _ _ _ h => h.elim, fun _ _ _ _ _ _ _ _ _ _ _ _ _ h => h.elim⟩
def spBent (K : PySem.W.Frag) (n : Nat) : Sp := fun vs H Q _ => ∃ (a : Addr) (m : Nat) (S : List Addr) (x : V) (d : PyData), vs = [.ref a, x, .int (n : Int)] ∧ Dice H a m ∧ m + (3 * n + 5) < cap ∧ a ∈ S ∧ Olds S H ∧ Dx K (OffS S H) x d ∧ (formedD d = true ∨ nameD d = true) ∧ d.depth ≤ 4 ∧
  ∀ (y : V) (e : PyData) H', But a H H' → Dice H' a (m + (3 * n + 5)) → Dx K (OffS S H') y e → Mild e (d.depth + 3) (wD d + 13) (d.shown.length + 1300 + 3 * n) → Q y H'
theorem bent_step (T : Tx K mg) (n : Nat) (sp0 : Sp) (G0 : FnOk P w K mg base CX0 (n + 3) T.a_law_bent T.d_law_bent ["dice", "thing", "deep"] sp0) (h0 : ∀ m, n = m + 1 → sp0 = spBent K m) :
    FnOk P w K mg base CX0 (n + 4) T.a_law_bent T.d_law_bent ["dice", "thing", "deep"] (spBent K n) := by
  have nd := sc__law_bent.nd
  have G1 := ok_roll (P := P) (w := w) (base := base) T
  have G2 := ok_pick (P := P) (w := w) (base := base) T
  have G3 := ok_odd (P := P) (w := w) (base := base) T
  refine T.f_law_bent.ok sc__law_bent (fun vs H Q E h => ?_) (fun cdv A outer s H vs Q E hr h => ?_)
  · obtain ⟨a, m, S, x, d, rfl, _⟩ := h
    rfl
  · obtain ⟨a, m, S, x, d, rfl, hd, hc, aS, old, hx, fm, d4, q⟩ := h
    refine ⟨_, (C8.pss_cut (ps_if (PW.pt (pw_and (pt_val (pe_callB call_isi (by rfl) T.b_isinstance (by decide +kernel) (pa_cons (pv 1) (pa_cons (pe_bltn (v := .ty "tuple") (by rfl) T.b_tuple (by decide +kernel) rfl) pa_nil)))) (pw_and (pt_cmpR (op_neD hr.units) (pv 1) (pe_tup pa_nil) (nomark _)) (pw_and1 (pt_cmpR op_gt (pv 2) pe_int (nomark _)))))) (pss_cons (ps_par (i := 3) (j := 4) (by rfl) nd rfl rfl (by decide) rfl rfl (pa_cons (pe_call G1 (hr.mono (by omega)) (by rfl) T.g_law_roll T.f_law_roll.kp T.n_law_roll .nil pass0 (pa_cons (pv 0) (pa_cons (pe_callB call_len_seq (by rfl) T.b_len (by decide +kernel) (pa_cons (pv 1) pa_nil)) pa_nil))) (pa_cons (pe_call G1 (hr.mono (by omega)) (by rfl) T.g_law_roll T.f_law_roll.kp T.n_law_roll .nil pass0 (pa_cons (pv 0) (pa_cons pe_int pa_nil))) pa_nil)) (by rfl))
      (pss_cons (ps_if (pt_cmpR op_eq (pv 4) pe_int (nomark _)) (pss_one (ps_ret (pe_op op_catA (pe_slice sl_tupA (pv 1) po_none (po_some (pv 3))) (pe_slice sl_tupA (pv 1) (po_some (pe_op op_add (pv 3) pe_int)) po_none)))) pss_nil)
      (pss_cons (ps_if (pt_cmpR op_eq (pv 4) pe_int (nomark _)) (pss_one (ps_ret (pe_op op_catA (pe_op op_catA (pe_slice sl_tupA (pv 1) po_none (po_some (pv 3))) (pe_tup (pa_cons (pe_ix ix_tup (pv 1) (pv 3) (fun _ _ => rfl)) pa_nil))) (pe_slice sl_tupA (pv 1) (po_some (pv 3)) po_none)))) pss_nil)
      (pss_cons (ps_if (pt_cmpR op_eq (pv 4) pe_int (nomark _)) (pss_one (ps_ret (pe_callTy call_list_of (by rfl) T.b_list (by decide +kernel) (pa_cons (pv 1) pa_nil)))) pss_nil)
      (pss_cons (ps_set (i := 5) nd rfl (.inl rfl) (pe_call G0 (hr.mono (by omega)) (by rfl) T.g_law_bent T.f_law_bent.kp T.n_law_bent .nil pass0 (pa_cons (pv 0) (pa_cons (pe_ix ix_tup (pv 1) (pv 3) (fun _ _ => rfl)) (pa_cons (pe_op op_sub (pv 2) pe_int) pa_nil)))))
      (pss_one (ps_ret (pe_op op_catA (pe_op op_catA (pe_slice sl_tupA (pv 1) po_none (po_some (pv 3))) (pe_tup (pa_cons (pv 5) pa_nil))) (pe_slice sl_tupA (pv 1) (po_some (pe_op op_add (pv 3) pe_int)) po_none))))))))) pss_nil)
      (pss_one (ps_ret (pe_call G2 (hr.mono (by omega)) (by rfl) T.g_law_pick T.f_law_pick.kp T.n_law_pick .nil pass0 (pa_cons (pv 0) (pa_cons (pe_lst (pa_cons (pe_call G3 (hr.mono (by omega)) (by rfl) T.g_law_odd T.f_law_odd.kp T.n_law_odd .nil pass0 (pa_cons (pv 0) pa_nil)) (pa_cons (pe_call G3 (hr.mono (by omega)) (by rfl) T.g_law_odd T.f_law_odd.kp T.n_law_odd .nil pass0 (pa_cons (pv 0) pa_nil)) (pa_cons pe_str (pa_cons pe_str (pa_cons (pe_tup (pa_cons pe_str pa_nil)) (pa_cons (pe_tup (pa_cons pe_str (pa_cons (pe_tup (pa_cons pe_str pa_nil)) pa_nil))) (pa_cons pe_str pa_nil)))))))) pa_nil)))))), ?_⟩
    refine ⟨fun σ' H' => σ' = [some (.ref a), some x, some (.int (n : Int)), none, none, none] ∧ Same H H', ?_, ?_⟩
    · refine ⟨x, rfl, x, .ty "tuple", _, _, _, rfl, .ty _, (hx.up OffS.all).ty, kit_ty (kit_tuple d), _, rfl, ?_⟩
      rcases fm with fm | fm
      · obtain ⟨nm, ds, rfl, l3, hnm, hfa⟩ := formed_shape fm
        have pd := plain_formed _ fm
        have pds := pd.tup
        refine iteT ⟨x, rfl, Nat.zero_le _, fun e0 ne0 => ?_⟩
        have s1 := same_put (o := .tup []) ne0
        have h1 := hx.up (OffS.same s1)
        refine ⟨_, .tuple [], ((h1.up OffS.all).dp pd.hd), .tup (SqT.of upd_same) .nil, ?_, by decide, _, rfl, iteT ⟨_, rfl, _, _, rfl, rfl, _, rfl, ?_⟩⟩
        · unfold SeqAt.shaped
          rw [pd.lay, Bool.true_and]
          exact decide_eq_true (by omega)
        generalize hes : PyData.str nm :: ds = es at *
        have les : es.length ≤ 4 := by
          rw [← hes, List.length_cons]
          omega
        have les0 : 0 < es.length := by
          rw [← hes]
          exact Nat.succ_pos _
        have dda : PyData.depthAll es ≤ 3 := by
          simp only [PyData.depth] at d4
          omega
        have part : ∀ (i : Nat) c, es[i]? = some c → (formedD c = true ∨ nameD c = true) ∧ c.depth ≤ PyData.depthAll es ∧ wD c ≤ 13 ∧ c.shown.length ≤ 1209 := fun i c h => by
          rw [← hes] at h
          have ee : PyData.depthAll es = PyData.depthAll ds := by
            rw [← hes]
            simp [PyData.depthAll, PyData.depth]
          have := part_of hnm hfa (by omega) h
          rw [ee]
          exact this
        clear hes hfa l3 hnm
        refine ite2 (fun e1 => ?_) (fun e1 => ⟨rfl, s1⟩)
        have n0 : 0 < n := by
          have := of_decide_eq_true e1
          omega
        obtain ⟨b, hb, xs, hxs⟩ : ∃ b, x = .ref b ∧ ∃ xs, OffS S (upd H e0 (.tup [])) b = some (.tup xs) ∧ DxAll K (OffS S (upd H e0 (.tup []))) xs es := by
          cases h1 with
          | @tup b xs _ ha hs => exact ⟨b, rfl, xs, ha, hs⟩
        subst hb
        obtain ⟨hb1, dx1⟩ := hxs
        have lx := dx1.length
        have old1 := old.up s1
        have d1 := hd.up s1
        generalize upd H e0 (.tup []) = H1 at *
        -- the two rolls
        refine ⟨_, rfl, _, rfl, b, xs, rfl, .inr (SqT.of (OffS.all _ _ hb1)), a, m, _, rfl, d1, by omega, by omega, by omega, fun r H2 bt2 dd2 r0 r1 => ⟨_, rfl, a, m + 1, 7, rfl, dd2, by omega, by decide, by decide, fun way H3 bt3 dd3 w0 w1 => ⟨_, _, rfl, ?_⟩⟩⟩
        obtain ⟨k, rfl⟩ := Int.eq_ofNat_of_zero_le r0
        have lt : k < es.length := by omega
        have of3 := (bt2.offs aS).trans (bt3.offs aS)
        have old3 := olds_but (olds_but old1 bt2 dd2) bt3 dd3
        have bt := (But.of s1).trans (bt2.trans bt3)
        have dx3 := dx1.up of3
        have hb3 := of3 _ _ hb1
        have h3 : Dx K (OffS S H3) (.ref b) (.tuple es) := .tup hb3 dx3
        clear dx1 hb1 h1 hx old1 d1 of3
        have gk := List.getElem?_eq_getElem lt
        obtain ⟨v, hv, dv⟩ := dx3.get gk
        have pk := part k _ gk
        have sp := split_at gk
        generalize es[k] = c at *
        have pc : Plain c := plains_iff.mp pds c (List.mem_of_getElem? gk)
        have ww : wAll es = wAll (es.take k) + wD c + wAll (es.drop (k + 1)) := by
          have := congrArg wAll sp
          rw [wAll_append, wAll_append] at this
          simpa [wAll] using this
        have pp : pl es = pl (es.take k) + (c.shown.length + 2) + pl (es.drop (k + 1)) := by
          have := congrArg pl sp
          rw [pl_append, pl_append] at this
          have one : pl [c] = c.shown.length + 2 := by simp [pl, PyData.shownAll, piled]
          rwa [one] at this
        have dp : PyData.depthAll es = max (max (PyData.depthAll (es.take k)) c.depth) (PyData.depthAll (es.drop (k + 1))) := by
          have := congrArg PyData.depthAll sp
          rw [dpAll_append, dpAll_append] at this
          simpa [PyData.depthAll] using this
        have le := pl_le es
        have le0 : wD (.tuple es) = wAll es + 1 := rfl
        have dd0 : (PyData.tuple es).depth = PyData.depthAll es + 1 := rfl
        -- one part away
        refine ⟨_, rfl, rfl, _, rfl, ite2 (fun e2 => ?_) (fun e2 => ?_)⟩
        · refine ⟨_, rfl, _, rfl, (k : Int), rfl, sl_upto h3 old3 fun y4 H4 s4 d4 => ⟨_, rfl, _, rfl, _, _, rfl, rfl, _, rfl, ?_⟩⟩
          dsimp only [tNoPart]
          rw [show (k : Int) + 1 = ((k + 1 : Nat) : Int) from rfl]
          refine sl_from (h3.up (OffS.same s4)) (old3.up s4) fun y5 H5 s5 d5 => ?_
          refine cat_tups (d4.up (OffS.same s5)) d5 ((old3.up s4).up s5) (few8 les) fun y6 H6 s6 d6 => ?_
          have s46 := s4.trans (s5.trans s6)
          have pl6 := (pds.take k).app (pds.drop (k + 1))
          refine q y6 _ H6 (bt.trans (But.of s46)) ((dd3.up s46).le (by omega)) d6 (pl6.tup.mild.le ?_ ?_ ?_)
          · simp only [PyData.depth]
            rw [dpAll_append]
            omega
          · rw [wD, wAll_append]
            omega
          · have := tup_len (es.take k ++ es.drop (k + 1))
            have e : piled (PyData.shownAll (es.take k ++ es.drop (k + 1))) = pl (es.take k) + pl (es.drop (k + 1)) := pl_append _ _
            omega
        -- one part twice
        refine ⟨_, rfl, rfl, _, rfl, ite2 (fun e3 => ?_) (fun e3 => ?_)⟩
        · refine ⟨_, rfl, _, rfl, (k : Int), rfl, sl_upto h3 old3 fun y4 H4 s4 d4 => ?_⟩
          have h4 := h3.up (OffS.same s4)
          refine ⟨_, rfl, _, rfl, b, xs, (k : Int), v, rfl, rfl, SqT.of (OffS.all _ _ (OffS.same s4 _ _ hb3)), atI_nat hv, (by show 1 ≤ sizeLine; decide), fun p np => ?_⟩
          have sp4 := same_put (o := .tup [v]) np
          have h5 : Dx K (OffS S (upd H4 p (.tup [v]))) (.ref p) (.tuple [c]) := .tup (OffS.out ((old3.up s4).new np) upd_same) (.cons (dv.up (OffS.same (s4.trans sp4))) .nil)
          refine cat_tups (d4.up (OffS.same sp4)) h5 ((old3.up s4).up sp4) (few5 les) fun y6 H6 s6 d6 => ⟨_, rfl, _, rfl, (k : Int), rfl, ?_⟩
          have s46 := s4.trans (sp4.trans s6)
          dsimp only [tNoPart]
          refine sl_from (h3.up (OffS.same s46)) (old3.up s46) fun y7 H7 s7 d7 => ?_
          refine cat_tups (d6.up (OffS.same s7)) d7 ((old3.up s46).up s7) (few9 les) fun y8 H8 s8 d8 => ?_
          have s48 := s46.trans (s7.trans s8)
          have dr : wAll (es.drop k) = wD c + wAll (es.drop (k + 1)) ∧ pl (es.drop k) = (c.shown.length + 2) + pl (es.drop (k + 1)) ∧ PyData.depthAll (es.drop k) = max c.depth (PyData.depthAll (es.drop (k + 1))) := by
            have e : es.drop k = c :: es.drop (k + 1) := by
              have e1 := congrArg (List.drop k) sp
              rw [List.append_assoc, List.drop_append_of_le_length (by rw [List.length_take]; omega), List.drop_take, Nat.sub_self, List.take_zero, List.nil_append] at e1
              exact e1
            rw [e]
            exact ⟨rfl, by simp [pl, PyData.shownAll, piled_cons], rfl⟩
          refine q y8 _ H8 (bt.trans (But.of s48)) ((dd3.up s48).le (by omega)) d8 ((Mild.among (pds.take k) (pds.drop k) pc.mild).le ?_ ?_ ?_) <;> omega
        -- a list
        refine ⟨_, rfl, rfl, _, rfl, ite2 (fun e4 => ?_) (fun e4 => ?_)⟩
        · refine ⟨_, rfl, b, xs, rfl, .inr (SqT.of (OffS.all _ _ hb3)), fun l nl => ?_⟩
          have sl := same_put (o := .lst xs) nl
          refine q _ (.list es) _ (bt.trans (But.of sl)) ((dd3.up sl).le (by omega)) (.lst (OffS.out (old3.new nl) upd_same) (dx3.up (OffS.same sl))) ⟨by simp [shortD], by simp [PyData.showable, pds.sw], fun z => ?_, ?_, ?_, ?_⟩
          · simp [PyData.hasDict, pds.hd] at z
          · simp only [PyData.depth]
            omega
          · exact Nat.zero_le _
          · have := lst_len es
            have e : piled (PyData.shownAll es) = pl es := rfl
            omega
        -- one part bent
        obtain ⟨n', rfl⟩ : ∃ n', n = n' + 1 := ⟨n - 1, by omega⟩
        have hs := h0 n' rfl
        subst hs
        refine ⟨_, rfl, _, rfl, _, rfl, b, xs, (k : Int), v, rfl, rfl, SqT.of (OffS.all _ _ hb3), atI_nat hv, _, rfl, _, _, rfl, rfl, a, m + 2, S, v, c, ?_, dd3, by omega, aS, old3, dv, pk.1, by omega, fun y4 e' H4 bt4 dd4 d4 ml => ?_⟩
        · show [V.ref a, v, V.int (((n' + 1 : Nat) : Int) - 1)] = _
          rw [show ((n' + 1 : Nat) : Int) - 1 = (n' : Int) by omega]
        have of4 := bt4.offs aS
        have old4 := olds_but old3 bt4 dd4
        have h4 := h3.up of4
        refine ⟨_, rfl, _, rfl, (k : Int), rfl, sl_upto h4 old4 fun y5 H5 s5 d5 => ⟨_, rfl, (by show 1 ≤ sizeLine; decide), fun p np => ?_⟩⟩
        have sp5 := same_put (o := .tup [y4]) np
        have h5 : Dx K (OffS S (upd H5 p (.tup [y4]))) (.ref p) (.tuple [e']) := .tup (OffS.out ((old4.up s5).new np) upd_same) (.cons (d4.up (OffS.same (s5.trans sp5))) .nil)
        refine cat_tups (d5.up (OffS.same sp5)) h5 ((old4.up s5).up sp5) (few5 les) fun y6 H6 s6 d6 => ⟨_, rfl, _, rfl, _, _, rfl, rfl, _, rfl, ?_⟩
        dsimp only [tNoPart]
        rw [show (k : Int) + 1 = ((k + 1 : Nat) : Int) from rfl]
        have s46 := s5.trans (sp5.trans s6)
        refine sl_from (h4.up (OffS.same s46)) (old4.up s46) fun y7 H7 s7 d7 => ?_
        refine cat_tups (d6.up (OffS.same s7)) d7 ((old4.up s46).up s7) (few9 les) fun y8 H8 s8 d8 => ?_
        have s48 := s46.trans (s7.trans s8)
        refine q y8 _ H8 (bt.trans (bt4.trans (But.of s48))) ((dd4.up s48).le (by omega)) d8 ((Mild.among (pds.take k) (pds.drop (k + 1)) ml).le ?_ ?_ ?_) <;> omega
      · cases d with
        | str z => exact iteF ⟨rfl, Same.refl H⟩
        | _ => cases fm
    · rintro σ' H1 ⟨rfl, s1⟩
      refine ⟨_, rfl, _, rfl, a, m, S, rfl, hd.up s1, by omega, aS, old.up s1, fun x1 e1 H2 bt2 dd2 dx1 o1 => ?_⟩
      have old2 := olds_but (old.up s1) bt2 dd2
      refine ⟨_, rfl, a, m + 1, S, rfl, dd2, by omega, aS, old2, fun x2 e2 H3 bt3 dd3 dx2 o2 => ?_⟩
      have old3 := olds_but old2 bt3 dd3
      have rest : MakesAll K S _ base5 := mk_cons (mk_str "a") (mk_cons (mk_str "f") (mk_cons (mk_tup (mk_cons (mk_str "a") mk_nil)) (mk_cons (mk_tup (mk_cons (mk_str "f") (mk_cons (mk_tup (mk_cons (mk_str "a") mk_nil)) mk_nil))) (mk_cons (mk_str "zzzzzzzz") mk_nil))))
      refine rest _ H3 _ old3 fun xs H4 s4 dxs => ?_
      have dAll : DxAll K (OffS S H4) (x1 :: x2 :: xs) (e1 :: e2 :: base5) := .cons (dx1.up ((bt3.offs aS).trans (OffS.same s4))) (.cons (dx2.up (OffS.same s4)) dxs)
      have ln := dAll.length
      have l7 : (x1 :: x2 :: xs).length = 7 := ln
      refine ⟨by rw [l7]; decide, fun p np => ?_⟩
      have smp := same_put (o := .lst (x1 :: x2 :: xs)) np
      have dd4 := dd3.up (s4.trans smp)
      refine ⟨a, p, m + 2, x1 :: x2 :: xs, rfl, dd4, by omega, .inl (.inl upd_same), (dd3.up s4).ne np, by rw [l7]; decide, by rw [l7]; decide, fun i v H5 bt5 dd5 hi => ?_⟩
      have lt : i < (e1 :: e2 :: base5).length := by
        rw [← ln]
        exact (List.getElem?_eq_some_iff.mp hi).1
      obtain ⟨v2, hv, dv⟩ := dAll.get (List.getElem?_eq_getElem lt)
      rw [hi] at hv
      cases hv
      have ml : ∀ e, e ∈ e1 :: e2 :: base5 → Mild e 3 5 100 := fun e he => by
        rcases List.mem_cons.mp he with rfl | he
        · exact odds_mild _ o1
        · rcases List.mem_cons.mp he with rfl | he
          · exact odds_mild _ o2
          · exact base5_mild _ he
      exact q v _ H5 ((But.of s1).trans (bt2.trans (bt3.trans ((But.of (s4.trans smp)).trans bt5)))) (dd5.le (by omega)) (dv.up ((OffS.same smp).trans (bt5.offs aS))) ((ml _ (List.getElem_mem lt)).le (by omega) (by omega) (by omega))
theorem ok_bent (T : Tx K mg) : ∀ n, FnOk P w K mg base CX0 (n + 4) T.a_law_bent T.d_law_bent ["dice", "thing", "deep"] (spBent K n)
  | 0 => bent_step T 0 _ fn_none (fun m e => by cases e)
  | n + 1 => bent_step T (n + 1) _ (ok_bent T n) (fun m e => by cases e; rfl)
end
end K01
/-! Terms made, chains, doubled ones, cells. -/
namespace K01
open PySem PySem.Spec PyProof.Rows L2 Kx
theorem len_is {n : Nat} {i : Int} (h : decide (V.int (n : Int) = V.int i) = true) : (n : Int) = i := V.int.inj (of_decide_eq_true h)
theorem len_not {n : Nat} {i : Int} (h : ¬ decide (V.int (n : Int) = V.int i) = true) : (n : Int) ≠ i := fun e => h (decide_eq_true (by rw [e]))
section
variable {P : Program} {w : World} {K : PySem.W.Frag} {mg : Str → Option Value} {base : Heap}
def spMade (K : PySem.W.Frag) : Sp := fun vs H Q _ => ∃ (x : Str) (a : Addr) (ws : List V) (ds : List PyData), vs = [.str x, .ref a] ∧ H a = some (.tup ws) ∧ DxAll K H ws ds ∧ shortD (.tuple (.str x :: ds)) = true ∧ szD (.tuple (.str x :: ds)) ≤ 100000 ∧ termD (.tuple (.str x :: ds)) = true ∧
  ∀ p H', Same H H' → H' p = some (.tup (.str x :: ws)) → Q (.ref p) H'
theorem ok_made (T : Tx K mg) : FnOk P w K mg base CX0 7 T.a_law_made T.d_law_made ["name", "parts"] (spMade K) := by
  have nd := sc__law_made.nd
  have G := ok_make (P := P) (w := w) (base := base) T
  refine T.f_law_made.ok sc__law_made (fun vs H Q E h => ?_) (fun cdv A outer s H vs Q E hr h => ?_)
  · obtain ⟨x, a, ws, ds, rfl, _⟩ := h
    rfl
  · obtain ⟨x, a, ws, ds, rfl, ha, hw, hs, hz, ht, q⟩ := h
    refine ⟨_, (pss_cons (ps_if (pt_cmpR op_eq (pe_callB call_len_seq (by rfl) T.b_len (by decide +kernel) (pa_cons (pv 1) pa_nil)) pe_int (nomark _)) (pss_one (ps_ret (pe_callR G (hr.mono (by decide)) (by rfl) T.gmake_term T.fmake_term.kp pass0 (pa_cons (pv 0) pa_nil)))) pss_nil)
      (pss_cons (ps_if (pt_cmpR op_eq (pe_callB call_len_seq (by rfl) T.b_len (by decide +kernel) (pa_cons (pv 1) pa_nil)) pe_int (nomark _)) (pss_one (ps_ret (pe_callR G (hr.mono (by decide)) (by rfl) T.gmake_term T.fmake_term.kp pass0 (pa_cons (pv 0) (pa_cons (pe_ix ix_tup (pv 1) pe_int (fun _ _ => rfl)) pa_nil))))) pss_nil)
      (pss_cons (ps_if (pt_cmpR op_eq (pe_callB call_len_seq (by rfl) T.b_len (by decide +kernel) (pa_cons (pv 1) pa_nil)) pe_int (nomark _)) (pss_one (ps_ret (pe_callR G (hr.mono (by decide)) (by rfl) T.gmake_term T.fmake_term.kp pass0 (pa_cons (pv 0) (pa_cons (pe_ix ix_tup (pv 1) pe_int (fun _ _ => rfl)) (pa_cons (pe_ix ix_tup (pv 1) pe_int (fun _ _ => rfl)) pa_nil)))))) pss_nil)
      (pss_cons (ps_if (pt_cmpR op_eq (pe_callB call_len_seq (by rfl) T.b_len (by decide +kernel) (pa_cons (pv 1) pa_nil)) pe_int (nomark _)) (pss_one (ps_ret (pe_callR G (hr.mono (by decide)) (by rfl) T.gmake_term T.fmake_term.kp pass0 (pa_cons (pv 0) (pa_cons (pe_ix ix_tup (pv 1) pe_int (fun _ _ => rfl)) (pa_cons (pe_ix ix_tup (pv 1) pe_int (fun _ _ => rfl)) (pa_cons (pe_ix ix_tup (pv 1) pe_int (fun _ _ => rfl)) pa_nil))))))) pss_nil)
      (pss_one (ps_ret (pe_callR G (hr.mono (by decide)) (by rfl) T.gmake_term T.fmake_term.kp pass0 (pa_cons (pv 0) (pa_cons (pe_ix ix_tup (pv 1) pe_int (fun _ _ => rfl)) (pa_cons (pe_ix ix_tup (pv 1) pe_int (fun _ _ => rfl)) (pa_cons (pe_ix ix_tup (pv 1) pe_int (fun _ _ => rfl)) (pa_cons (pe_ix ix_tup (pv 1) pe_int (fun _ _ => rfl)) pa_nil)))))))))))), ?_⟩
    have l3 : ws.length ≤ 3 := by
      rw [hw.length]
      exact (term_name ht).2
    have sq : SqT K H a ws := SqT.of ha
    have fin : ∀ E, spMake K ([V.str x] ++ ws ++ []) H Q E := fun E => ⟨[.str x], ws, by rw [List.append_nil], rfl, Nat.le_of_lt (small1000 (by omega)), fun p np => ⟨x, p, ws, ds, rfl, upd_same, hw.up (same_put np), hs, hz, ht, fun r H' sm _ e => q r H' ((same_put np).trans sm) e⟩⟩
    refine ⟨_, rfl, a, ws, rfl, .inr sq, rfl, _, rfl, ite2 (fun e0 => ?_) (fun e0 => ?_)⟩
    · have := len_is e0
      match ws, this, fin with
      | [], _, fin => exact ⟨_, rfl, fin _⟩
      | _ :: _, z, _ => rw [List.length_cons] at z; omega
    refine ⟨_, rfl, a, ws, rfl, .inr sq, rfl, _, rfl, ite2 (fun e1 => ?_) (fun e1 => ?_)⟩
    · have := len_is e1
      match ws, this, fin, sq with
      | [v], _, fin, sq => exact ⟨_, rfl, _, rfl, a, _, 0, v, rfl, rfl, sq, atI_nat (j := 0) rfl, fin _⟩
      | [], z, _, _ => cases z
      | _ :: _ :: _, z, _, _ => rw [List.length_cons, List.length_cons] at z; omega
    refine ⟨_, rfl, a, ws, rfl, .inr sq, rfl, _, rfl, ite2 (fun e2 => ?_) (fun e2 => ?_)⟩
    · have := len_is e2
      match ws, this, fin, sq with
      | [v, u], _, fin, sq => exact ⟨_, rfl, _, rfl, a, _, 0, v, rfl, rfl, sq, atI_nat (j := 0) rfl, _, rfl, a, _, 1, u, rfl, rfl, sq, atI_nat (j := 1) rfl, fin _⟩
      | [], z, _, _ => cases z
      | [_], z, _, _ => cases z
      | _ :: _ :: _ :: _, z, _, _ => rw [List.length_cons, List.length_cons, List.length_cons] at z; omega
    refine ⟨_, rfl, a, ws, rfl, .inr sq, rfl, _, rfl, ite2 (fun e3 => ?_) (fun e3 => ?_)⟩
    · have := len_is e3
      match ws, this, fin, sq with
      | [v, u, t], _, fin, sq => exact ⟨_, rfl, _, rfl, a, _, 0, v, rfl, rfl, sq, atI_nat (j := 0) rfl, _, rfl, a, _, 1, u, rfl, rfl, sq, atI_nat (j := 1) rfl, _, rfl, a, _, 2, t, rfl, rfl, sq, atI_nat (j := 2) rfl, fin _⟩
      | [], z, _, _ => cases z
      | [_], z, _, _ => cases z
      | [_, _], z, _, _ => cases z
      | _ :: _ :: _ :: _ :: _, z, _, _ => rw [List.length_cons, List.length_cons, List.length_cons, List.length_cons] at z; omega
    exfalso
    have z0 := len_not e0
    have z1 := len_not e1
    have z2 := len_not e2
    have z3 := len_not e3
    omega
end
end K01
/-! Chains and doubled terms. -/
namespace K01
open PySem PySem.Spec PyProof.Rows L2 Kx
def chainD : Nat → PyData
  | 0 => .tuple [.str "a"]
  | n + 1 => .tuple [.str "g", chainD n]
def dblD : Nat → PyData
  | 0 => .tuple [.str "a"]
  | n + 1 => .tuple [.str "f", dblD n, dblD n]
section
variable {P : Program} {w : World} {K : PySem.W.Frag} {mg : Str → Option Value} {base : Heap}
def spGrown (K : PySem.W.Frag) (D : Nat → PyData) : Sp := fun vs H Q _ => ∃ (t : Int) (n : Nat), vs = [.int t] ∧ t = n + 1 ∧ n ≤ 1000 ∧ ∀ x H', Same H H' → Dx K H' x (D n) → Q x H'
theorem ok_chain (T : Tx K mg) : FnOk P w K mg base CX0 1 T.a_law_chain T.d_law_chain ["total"] (spGrown K chainD) := by
  have nd := sc__law_chain.nd
  refine T.f_law_chain.ok sc__law_chain (fun vs H Q E h => ?_) (fun cdv A outer s H vs Q E hr h => ?_)
  · obtain ⟨t, n, rfl, _⟩ := h
    rfl
  · obtain ⟨t, n, rfl, ht, hn, q⟩ := h
    refine ⟨_, (pss_cons (ps_set (i := 1) nd rfl (.inl rfl) (pe_tup (pa_cons pe_str pa_nil)))
      (pss_cons (ps_for PassesOwn.never rfl (pi_range1 (by rfl) T.b_range (pa_cons (pe_op op_sub (pv 0) pe_int) pa_nil)) (pg_name (i := 2) nd rfl (.inl rfl)) (pss_one (ps_set (i := 1) nd rfl (.inl rfl) (pe_tup (pa_cons pe_str (pa_cons (pv 1) pa_nil))))))
      (pss_one (ps_ret (pv 1))))), ?_⟩
    refine ⟨(by show 1 ≤ sizeLine; decide), fun p np => ⟨_, rfl, _, _, rfl, rfl, t - 1, rfl, by omega, by omega, ?_⟩⟩
    have sp := same_put (o := .tup [.str "a"]) np
    rw [show (t - 1).toNat = n by omega]
    refine for_range (fun i σ H' => Same H H' ∧ ∃ (x : V) (y : Option V), σ = [some (.int t), some x, y] ∧ Dx K H' x (chainD i)) ⟨sp, _, none, rfl, .tup upd_same (.cons (.str _) .nil)⟩ ?_ ?_
    · rintro i σ H1 hi ⟨s1, x, y, rfl, dx⟩
      refine ⟨_, rfl, (by show 2 ≤ sizeLine; decide), fun r nr => ?_⟩
      have sr := same_put (o := .tup [.str "g", x]) nr
      exact ⟨s1.trans sr, _, _, rfl, .tup upd_same (.cons (.str _) (.cons (dx.up sr) .nil))⟩
    · rintro σ H1 ⟨s1, x, y, rfl, dx⟩
      exact ⟨_, rfl, q x H1 s1 dx⟩
theorem ok_dbl (T : Tx K mg) : FnOk P w K mg base CX0 1 T.a_law_doubled T.d_law_doubled ["total"] (spGrown K dblD) := by
  have nd := sc__law_doubled.nd
  refine T.f_law_doubled.ok sc__law_doubled (fun vs H Q E h => ?_) (fun cdv A outer s H vs Q E hr h => ?_)
  · obtain ⟨t, n, rfl, _⟩ := h
    rfl
  · obtain ⟨t, n, rfl, ht, hn, q⟩ := h
    refine ⟨_, (pss_cons (ps_set (i := 1) nd rfl (.inl rfl) (pe_tup (pa_cons pe_str pa_nil)))
      (pss_cons (ps_for PassesOwn.never rfl (pi_range1 (by rfl) T.b_range (pa_cons (pe_op op_sub (pv 0) pe_int) pa_nil)) (pg_name (i := 2) nd rfl (.inl rfl)) (pss_one (ps_set (i := 1) nd rfl (.inl rfl) (pe_tup (pa_cons pe_str (pa_cons (pv 1) (pa_cons (pv 1) pa_nil)))))))
      (pss_one (ps_ret (pv 1))))), ?_⟩
    refine ⟨(by show 1 ≤ sizeLine; decide), fun p np => ⟨_, rfl, _, _, rfl, rfl, t - 1, rfl, by omega, by omega, ?_⟩⟩
    have sp := same_put (o := .tup [.str "a"]) np
    rw [show (t - 1).toNat = n by omega]
    refine for_range (fun i σ H' => Same H H' ∧ ∃ (x : V) (y : Option V), σ = [some (.int t), some x, y] ∧ Dx K H' x (dblD i)) ⟨sp, _, none, rfl, .tup upd_same (.cons (.str _) .nil)⟩ ?_ ?_
    · rintro i σ H1 hi ⟨s1, x, y, rfl, dx⟩
      refine ⟨_, rfl, _, rfl, (by show 3 ≤ sizeLine; decide), fun r nr => ?_⟩
      have sr := same_put (o := .tup [.str "f", x, x]) nr
      exact ⟨s1.trans sr, _, _, rfl, .tup upd_same (.cons (.str _) (.cons (dx.up sr) (.cons (dx.up sr) .nil)))⟩
    · rintro σ H1 ⟨s1, x, y, rfl, dx⟩
      exact ⟨_, rfl, q x H1 s1 dx⟩
end
end K01
/-! Cells. -/
namespace K01
open PySem PySem.Spec PyProof.Rows L2 Kx
def five : List Str := ["a", "ab", "b", "zzzzzzzz", "in"]
theorem five_ok : ∀ x, x ∈ five → isNm x = true := by decide +kernel
def cellsD (ns : List Str) : PyData := .tuple (ns.map fun x => .tuple [.str x])
theorem cells_dx {K : PySem.W.Frag} {H : Hp} : ∀ {cs : List Addr} {ns : List Str}, cs.length = ns.length → (∀ (i : Nat) c x, cs[i]? = some c → ns[i]? = some x → H c = some (.tup [.str x])) → DxAll K H (cs.map V.ref) (ns.map fun x => .tuple [.str x])
  | [], [], _, _ => .nil
  | c :: cs, x :: ns, l, h => .cons (.tup (h 0 c x rfl rfl) (.cons (.str x) .nil)) (cells_dx (Nat.succ.inj l) fun i c x h1 h2 => h (i + 1) c x (by simpa using h1) (by simpa using h2))
  | [], _ :: _, l, _ => by cases l
  | _ :: _, [], l, _ => by cases l
theorem cells_lay : ∀ {ns : List Str}, (∀ x, x ∈ ns → isNm x = true) → Plains (ns.map fun x => PyData.tuple [.str x])
  | [], _ => ⟨rfl, rfl, rfl, rfl, rfl, rfl⟩
  | x :: ns, h => Plains.cons (Plains.tup (Plains.cons (plain_name (h x List.mem_cons_self)) ⟨rfl, rfl, rfl, rfl, rfl, rfl⟩)) (cells_lay fun y hy => h y (List.mem_cons_of_mem _ hy))
theorem cells_depth : ∀ (ns : List Str), PyData.depthAll (ns.map fun x => PyData.tuple [.str x]) ≤ 1
  | [] => Nat.zero_le _
  | x :: ns => by
    have := cells_depth ns
    simp only [List.map_cons, PyData.depthAll, PyData.depth]
    omega
/-- te makes d, with these locals -/
def MkAt (K : PySem.W.Frag) (σ : L2.St) (te : TE) (d : PyData) : Prop := ∀ (H : Hp) (Q : VK), (∀ x H', Same H H' → Dx K H' x d → Q x H') → te σ H Q
def MkAts (K : PySem.W.Frag) (σ : L2.St) (ta : TA) (ds : List PyData) : Prop := ∀ (H : Hp) (Q : List V → Hp → Prop), (∀ xs H', Same H H' → DxAll K H' xs ds → Q xs H') → ta σ H Q
section
variable {K : PySem.W.Frag} {σ : L2.St} {te : TE} {ta : TA} {d : PyData} {ds : List PyData}
theorem ma_var {i : Nat} {x : Str} (h : σ[i]? = some (some (.str x))) : MkAt K σ (tVar i) (.str x) := fun H Q q => ⟨_, h, q _ H (Same.refl H) (.str x)⟩
theorem ma_nil : MkAts K σ tNil [] := fun H Q q => q _ H (Same.refl H) .nil
theorem ma_cons (h1 : MkAt K σ te d) (h2 : MkAts K σ ta ds) : MkAts K σ (tCons te ta) (d :: ds) := fun H Q q =>
  h1 H _ fun x H1 s1 d1 => h2 H1 _ fun xs H2 s2 d2 => q _ H2 (s1.trans s2) (.cons (d1.up s2) d2)
theorem ma_tup (h : MkAts K σ ta ds) (few : ds.length ≤ sizeLine) : MkAt K σ (tTup ta) (.tuple ds) := fun H Q q =>
  h H _ fun xs H1 s1 d1 => ⟨by rw [d1.length]; exact few, fun p np => q _ _ (s1.trans (same_put np)) (.tup upd_same (d1.up (same_put np)))⟩
theorem ma_lst (h : MkAts K σ ta ds) (few : ds.length ≤ sizeLine) : MkAt K σ (tLst ta) (.list ds) := fun H Q q =>
  h H _ fun xs H1 s1 d1 => ⟨by rw [d1.length]; exact few, fun p np => q _ _ (s1.trans (same_put np)) (.lst upd_same (d1.up (same_put np)))⟩
end
theorem shaped_of {d : PyData} (h : Plain d) (k : d.depth ≤ 64) : SeqAt.shaped d = true := by
  unfold SeqAt.shaped
  rw [h.lay, Bool.true_and]
  exact decide_eq_true k
section
variable {P : Program} {w : World} {K : PySem.W.Frag} {mg : Str → Option Value} {base : Heap}
theorem cells_call {H : Hp} {Q : VK} {E : XK} (ns : List Str) (hn : ∀ x, x ∈ ns → isNm x = true) (few : ns.length ≤ 10) (q : ∀ x H', Same H H' → Dx K H' x (cellsD ns) → Q x H') : spCells K (ns.map V.str) H Q E :=
  ⟨[], ns.map V.str, rfl, rfl, Nat.le_of_lt (small1000 (by rw [List.length_map]; omega)), fun p np => ⟨p, ns, rfl, upd_same, hn, few, fun r H' cs sm _ l e h => q _ H' ((same_put np).trans sm) (.tup e (cells_dx l h))⟩⟩
def spCr (K : PySem.W.Frag) : Sp := fun vs H Q _ => ∃ (a : Addr) (m : Nat), vs = [.ref a] ∧ Dice H a m ∧ m + 5 < cap ∧ ∀ H', But a H H' → Dice H' a (m + 5) → Q (.bl true) H'
theorem ok_cr (T : Tx K mg) : FnOk P w K mg base CX0 3 T.a_law_cells_right T.d_law_cells_right ["dice"] (spCr K) := by
  have nd := sc__law_cells_right.nd
  have G1 := ok_mixed (P := P) (w := w) (base := base) T
  have G2 := ok_cells (P := P) (w := w) (base := base) T
  refine T.f_law_cells_right.ok sc__law_cells_right (fun vs H Q E h => ?_) (fun cdv A outer s H vs Q E hr h => ?_)
  · obtain ⟨a, m, rfl, _⟩ := h
    rfl
  · obtain ⟨a, m, rfl, hd, hc, q⟩ := h
    refine ⟨_, (pss_cons (ps_asg (pe_slice sl_list (pe_call G1 (hr.mono (by omega)) (by rfl) T.g_law_mixed T.f_law_mixed.kp T.n_law_mixed .nil pass0 (pa_cons (pv 0) (pa_cons (pe_lst (pa_cons pe_str (pa_cons pe_str (pa_cons pe_str (pa_cons pe_str (pa_cons pe_str pa_nil)))))) pa_nil))) po_none (po_some pe_int)) (pg_lst rfl (pgs_cons (pg_name (i := 1) nd rfl (.inl rfl)) (pgs_cons (pg_name (i := 2) nd rfl (.inl rfl)) (pgs_cons (pg_name (i := 3) nd rfl (.inl rfl)) pgs_nil)))))
      (pss_cons (ps_set (i := 4) nd rfl (.inl rfl) (pe_lst (pa_cons (pe_callR0 G2 (hr.mono (by omega)) (by rfl) T.gmake_cells T.fmake_cells.kp pass0) (pa_cons (pe_callR G2 (hr.mono (by omega)) (by rfl) T.gmake_cells T.fmake_cells.kp pass0 (pa_cons (pv 1) pa_nil)) (pa_cons (pe_callR G2 (hr.mono (by omega)) (by rfl) T.gmake_cells T.fmake_cells.kp pass0 (pa_cons (pv 2) (pa_cons (pv 1) (pa_cons (pv 2) pa_nil)))) pa_nil)))))
      (pss_cons (ps_if (pt_cmpR (op_neD hr.units) (pv 4) (pe_lst (pa_cons (pe_tup pa_nil) (pa_cons (pe_tup (pa_cons (pe_tup (pa_cons (pv 1) pa_nil)) pa_nil)) (pa_cons (pe_tup (pa_cons (pe_tup (pa_cons (pv 2) pa_nil)) (pa_cons (pe_tup (pa_cons (pv 1) pa_nil)) (pa_cons (pe_tup (pa_cons (pv 2) pa_nil)) pa_nil)))) pa_nil)))) (nomark _)) (pss_one (ps_ret pe_bl)) pss_nil)
      (pss_one (ps_ret (pe_cmpR (op_eqD hr.units) (pe_callR G2 (hr.mono (by omega)) (by rfl) T.gmake_cells T.fmake_cells.kp pass0 (pa_cons (pv 1) (pa_cons (pv 2) (pa_cons (pv 3) pa_nil)))) (pe_tup (pa_cons (pe_tup (pa_cons (pv 1) pa_nil)) (pa_cons (pe_tup (pa_cons (pv 2) pa_nil)) (pa_cons (pe_tup (pa_cons (pv 3) pa_nil)) pa_nil)))) (nomark _))))))), ?_⟩
    refine ⟨_, rfl, (by show 5 ≤ sizeLine; decide), fun b nb => ⟨a, b, m, five.map V.str, rfl, hd.up (same_put nb), hc, .inl (.inl upd_same), hd.ne nb, by decide, fun ys p H1 bt1 dd1 pm np npa ep => ?_⟩⟩
    obtain ⟨ns, pn, rfl⟩ := perm_back pm.symm five rfl
    have dd1 : Dice H1 a (m + 5) := dd1
    have bt1 := (But.of (same_put (o := .lst (five.map V.str)) nb)).trans bt1
    have l5 : ns.length = 5 := pn.length_eq
    have hn : ∀ x, x ∈ ns → isNm x = true := fun x hx => five_ok x (pn.mem_iff.mp hx)
    match ns, l5, hn, ep with
    | [n1, n2, n3, n4, n5], _, hn, ep =>
    have h1 := hn n1 (.head _)
    have h2 := hn n2 (.tail _ (.head _))
    have h3 := hn n3 (.tail _ (.tail _ (.head _)))
    refine ⟨3, rfl, p, _, rfl, .inl (.inl ep), fun c nc => ⟨c, _, rfl, .inl (.inl upd_same), rfl, _, _, rfl, _, _, rfl, _, _, rfl, rfl, ?_⟩⟩
    have sc := same_put (o := .lst (cutV ([n1, n2, n3, n4, n5].map V.str) none (some 3))) nc
    dsimp only
    have hl : ∀ x, x ∈ [n2, n1, n2] → isNm x = true := fun x hx => by
      rcases List.mem_cons.mp hx with rfl | hx
      · exact h2
      · rcases List.mem_cons.mp hx with rfl | hx
        · exact h1
        · cases List.mem_singleton.mp hx
          exact h2
    have hl3 : ∀ x, x ∈ [n1, n2, n3] → isNm x = true := fun x hx => by
      rcases List.mem_cons.mp hx with rfl | hx
      · exact h1
      · rcases List.mem_cons.mp hx with rfl | hx
        · exact h2
        · cases List.mem_singleton.mp hx
          exact h3
    refine cells_call [] (fun x hx => nomatch hx) (Nat.zero_le _) fun x4 H4 s4 d4 => ⟨_, rfl, cells_call [n1] (fun x hx => by cases List.mem_singleton.mp hx; exact h1) (by show 1 ≤ 10; decide) fun x5 H5 s5 d5 => ⟨_, rfl, _, rfl, _, rfl, cells_call [n2, n1, n2] hl (by show 3 ≤ 10; decide) fun x6 H6 s6 d6 => ⟨(by show 3 ≤ sizeLine; decide), fun r nr => ?_⟩⟩⟩
    have sr := same_put (o := .lst [x4, x5, x6]) nr
    have told : Dx K (upd H6 r (.lst [x4, x5, x6])) (.ref r) (.list [cellsD [], cellsD [n1], cellsD [n2, n1, n2]]) := .lst upd_same (.cons (d4.up (s5.trans (s6.trans sr))) (.cons (d5.up (s6.trans sr)) (.cons (d6.up sr) .nil)))
    have bt6 := bt1.trans (But.of (sc.trans (s4.trans (s5.trans (s6.trans sr)))))
    have dd6 := dd1.up (sc.trans (s4.trans (s5.trans (s6.trans sr))))
    have P0 : Plain (cellsD []) := (cells_lay (ns := []) fun x hx => nomatch hx).tup
    have P1 : Plain (cellsD [n1]) := (cells_lay (ns := [n1]) fun x hx => by cases List.mem_singleton.mp hx; exact h1).tup
    have P2 : Plain (cellsD [n2, n1, n2]) := (cells_lay hl).tup
    have P3 : Plain (cellsD [n1, n2, n3]) := (cells_lay hl3).tup
    have PL : Plains [cellsD [], cellsD [n1], cellsD [n2, n1, n2]] := Plains.cons P0 (Plains.cons P1 (Plains.cons P2 ⟨rfl, rfl, rfl, rfl, rfl, rfl⟩))
    have lay : (PyData.list [cellsD [], cellsD [n1], cellsD [n2, n1, n2]]).canLay0 = true := by
      rw [PyData.canLay0]
      exact PL.lay
    have hdl : (PyData.list [cellsD [], cellsD [n1], cellsD [n2, n1, n2]]).hasDict = false := by
      rw [PyData.hasDict]
      exact PL.hd
    have dp1 : (PyData.list [cellsD [], cellsD [n1], cellsD [n2, n1, n2]]).depth ≤ 64 := by
      simp [PyData.depth, PyData.depthAll, cellsD]
    have sh1 : SeqAt.shaped (PyData.list [cellsD [], cellsD [n1], cellsD [n2, n1, n2]]) = true := by
      unfold SeqAt.shaped
      rw [lay, Bool.true_and]
      exact decide_eq_true dp1
    have few : ∀ {ds : List PyData}, ds.length ≤ 3 → ds.length ≤ sizeLine := fun h => Nat.le_of_lt (small1000 (by omega))
    have mk : MkAt K [some (.ref a), some (.str n1), some (.str n2), some (.str n3), some (.ref r)] _ (.list [cellsD [], cellsD [n1], cellsD [n2, n1, n2]]) :=
      ma_lst (ma_cons (ma_tup ma_nil (few (Nat.zero_le _))) (ma_cons (ma_tup (ma_cons (ma_tup (ma_cons (ma_var (i := 1) rfl) ma_nil) (few (by show 1 ≤ 3; decide))) ma_nil) (few (by show 1 ≤ 3; decide)))
        (ma_cons (ma_tup (ma_cons (ma_tup (ma_cons (ma_var (i := 2) rfl) ma_nil) (few (by show 1 ≤ 3; decide))) (ma_cons (ma_tup (ma_cons (ma_var (i := 1) rfl) ma_nil) (few (by show 1 ≤ 3; decide))) (ma_cons (ma_tup (ma_cons (ma_var (i := 2) rfl) ma_nil) (few (by show 1 ≤ 3; decide))) ma_nil))) (few (by show 3 ≤ 3; decide))) ma_nil))) (few (by show 3 ≤ 3; decide))
    refine ⟨_, rfl, mk _ _ fun y7 H7 s7 d7 => ?_⟩
    refine ⟨_, _, (told.up s7).dp hdl, d7.dp hdl, sh1, sh1, _, rfl, ?_⟩
    rw [SeqAt.eqv_refl _ lay]
    refine iteF ?_
    refine ⟨_, rfl, _, rfl, _, rfl, cells_call [n1, n2, n3] hl3 (by show 3 ≤ 10; decide) fun x8 H8 s8 d8 => ?_⟩
    have mk2 : MkAt K [some (.ref a), some (.str n1), some (.str n2), some (.str n3), some (.ref r)] _ (cellsD [n1, n2, n3]) :=
      ma_tup (ma_cons (ma_tup (ma_cons (ma_var (i := 1) rfl) ma_nil) (few (by show 1 ≤ 3; decide))) (ma_cons (ma_tup (ma_cons (ma_var (i := 2) rfl) ma_nil) (few (by show 1 ≤ 3; decide))) (ma_cons (ma_tup (ma_cons (ma_var (i := 3) rfl) ma_nil) (few (by show 1 ≤ 3; decide))) ma_nil))) (few (by show 3 ≤ 3; decide))
    refine mk2 _ _ fun y9 H9 s9 d9 => ?_
    have dp3 : (cellsD [n1, n2, n3]).depth ≤ 64 := by
      simp [PyData.depth, PyData.depthAll, cellsD]
    refine ⟨_, _, (d8.up s9).dp P3.hd, d9.dp P3.hd, shaped_of P3 dp3, shaped_of P3 dp3, ?_⟩
    rw [SeqAt.eqv_refl _ P3.lay]
    have s79 := s7.trans (s8.trans s9)
    exact q H9 (bt6.trans (But.of s79)) (dd6.up s79)
end
end K01
/-! Values judged. -/
namespace K01
open PySem PySem.Spec PyProof.Rows L2 Kx
mutual
theorem rows_le : ∀ d : PyData, (rowsD d).length ≤ wD d
  | .none => Nat.le_refl _
  | .bool _ => Nat.le_refl _
  | .int _ => Nat.le_refl _
  | .str _ => Nat.le_refl _
  | .list _ => Nat.le_refl _
  | .dict _ => Nat.le_refl _
  | .tuple [] => Nat.zero_le _
  | .tuple (d :: ds) => by
    have := rowsAll_le ds
    rw [rowsD, List.length_cons, wD, wAll]
    omega
theorem rowsAll_le : ∀ ds : List PyData, (rowsAll ds).length ≤ wAll ds
  | [] => Nat.le_refl _
  | d :: ds => by
    have h1 := rows_le d
    have h2 := rowsAll_le ds
    rw [rowsAll, List.length_append, wAll]
    omega
end
mutual
theorem sz_le : ∀ d : PyData, szD d ≤ d.shown.length + 2
  | .none => by simp [szD]
  | .bool _ => by simp [szD]
  | .int _ => by simp [szD]
  | .str _ => by simp [szD]
  | .list _ => by simp [szD]
  | .dict _ => by simp [szD]
  | .tuple ds => by
    have h1 := szAll_le ds
    have h2 := pl_le ds
    rw [szD]
    omega
theorem szAll_le : ∀ ds : List PyData, szAll ds ≤ pl ds
  | [] => Nat.le_refl _
  | d :: ds => by
    have h1 := sz_le d
    have h2 := szAll_le ds
    simp only [pl, PyData.shownAll, piled_cons, szAll] at h2 ⊢
    omega
end
section
variable {P : Program} {w : World} {K : PySem.W.Frag} {mg : Str → Option Value} {base : Heap}
def spJr (K : PySem.W.Frag) : Sp := fun vs H Q _ => ∃ (x : V) (d : PyData), vs = [x] ∧ Dx K H x d ∧ Mild d 10 60 9000 ∧ ∀ H', Same H H' → Q (.bl true) H'
theorem ok_jr (T : Tx K mg) : FnG P w K mg base 15 T.a_law_judged_right T.d_law_judged_right ["thing"] (spJr K) := by
  have nd := sc__law_judged_right.nd
  have G1 := ok_name (P := P) (w := w) (base := base) T
  have G2 := ok_term (P := P) (w := w) (base := base) T
  have G3 := ok_cell (P := P) (w := w) (base := base) T
  have G4 := ok_lname (P := P) (w := w) (base := base) T
  have G5 := ok_lterm (P := P) (w := w) (base := base) T 11
  refine okG T.f_law_judged_right sc__law_judged_right (fun vs H Q E h => ?_) (fun cdv A outer s H vs Q E cm hr h => ?_)
  · obtain ⟨x, d, rfl, _⟩ := h
    rfl
  · obtain ⟨x, d, rfl, hx, ml, q⟩ := h
    refine ⟨_, (pss_cons (ps_set (i := 1) nd rfl (.inl rfl) (pe_callB (cr_repr cm hr.units) (by rfl) T.b_repr (by decide +kernel) (pa_cons (pv 0) pa_nil)))
      (pss_cons (ps_set (i := 2) nd rfl (.inl rfl) (pe_lst (pa_cons (pe_call G1 (hr.mono (by decide)) (by rfl) T.gis_name T.fis_name.kp T.nis_name .nil pass0 (pa_cons (pv 0) pa_nil)) (pa_cons (pe_call G2 (hr.mono (by decide)) (by rfl) T.gis_term T.fis_term.kp T.nis_term .nil pass0 (pa_cons (pv 0) pa_nil)) (pa_cons (pe_call G3 (hr.mono (by decide)) (by rfl) T.gis_cell T.fis_cell.kp T.nis_cell .nil pass0 (pa_cons (pv 0) pa_nil)) pa_nil)))))
      (C8.pss_cut (ps_set (i := 3) nd rfl (.inl rfl) (pe_lst (pa_cons (pe_call G4 (hr.mono (by decide)) (by rfl) T.g_law_is_name T.f_law_is_name.kp T.n_law_is_name .nil pass0 (pa_cons (pv 0) pa_nil)) (pa_cons (pe_call G5 (hr.mono (by decide)) (by rfl) T.g_law_is_term T.f_law_is_term.kp T.n_law_is_term .nil pass0 (pa_cons (pv 0) pa_nil)) (pa_cons (pe_and (pe_call G5 (hr.mono (by decide)) (by rfl) T.g_law_is_term T.f_law_is_term.kp T.n_law_is_term .nil pass0 (pa_cons (pv 0) pa_nil)) (pe_one (pe_cmpR op_eq (pe_callB call_len_seq (by rfl) T.b_len (by decide +kernel) (pa_cons (pv 0) pa_nil)) pe_int (nomark _)))) pa_nil)))))
      (pss_one (ps_ret (pe_and (pe_cmpR op_eq (pe_callB (cr_repr cm hr.units) (by rfl) T.b_repr (by decide +kernel) (pa_cons (pv 2) pa_nil)) (pe_callB (cr_repr cm hr.units) (by rfl) T.b_repr (by decide +kernel) (pa_cons (pv 3) pa_nil)) (nomark _)) (pe_one (pe_cmpR op_eq (pe_callB (cr_repr cm hr.units) (by rfl) T.b_repr (by decide +kernel) (pa_cons (pv 0) pa_nil)) (pv 1) (nomark _))))))))), ?_⟩
    have dz : Dz K H x d := ⟨hx, ml.short, by have := sz_le d; have := ml.ln; omega⟩
    have rl := rows_le d
    have md := ml.dp
    have mw := ml.wd
    have mn := ml.ln
    have fit : d.shown.length + 64 ≤ sizeLine := Nat.le_trans (show d.shown.length + 64 ≤ 10000 by omega) (by decide)
    have shortS : ∀ y, d = .str y → y.length ≤ sizeLine := fun y e => by
      subst e
      have := ml.short
      simp only [shortD, decide_eq_true_eq] at this
      exact Nat.le_trans this (by decide)
    refine ⟨_, rfl, x, d, rfl, hx, ml.sw, ml.dl, by omega, fit, ?_⟩
    refine ⟨_, rfl, x, d, rfl, hx, shortS, _, rfl, x, d, rfl, dz, fun H1 s1 => ⟨_, rfl, x, d, rfl, dz.up s1, fun H2 s2 => ⟨(by show 3 ≤ sizeLine; decide), fun p np => ?_⟩⟩⟩
    have sp := same_put (o := .lst [.bl (nameD d), .bl (termD d), .bl (cellD d)]) np
    have s3 := s1.trans (s2.trans sp)
    refine ⟨fun σ' H' => Same H H' ∧ ∃ r, σ' = [some x, some (.str d.shown), some (.ref p), some (.ref r)] ∧ H' p = some (.lst [.bl (nameD d), .bl (termD d), .bl (cellD d)]) ∧ H' r = some (.lst [.bl (nameD d), .bl (termD d), .bl (cellD d)]), ?_, ?_⟩
    · refine ⟨_, rfl, x, d, rfl, hx.up s3, ml.short, fun H4 s4 => ⟨_, rfl, x, d, rfl, hx.up (s3.trans s4), ml.short, by omega, by omega, fun H5 s5 => ⟨_, rfl, x, d, rfl, hx.up (s3.trans (s4.trans s5)), ml.short, by omega, by omega, fun H6 s6 => ⟨_, rfl, ?_⟩⟩⟩⟩
      have s36 := s4.trans (s5.trans s6)
      have end3 : ∀ b, b = cellD d → ∀ r, H6 r = none → Same H (upd H6 r (.lst [.bl (nameD d), .bl (termD d), .bl b])) ∧ ∃ r', [some x, some (.str d.shown), some (V.ref p), some (.ref r)] = [some x, some (.str d.shown), some (.ref p), some (.ref r')] ∧ upd H6 r (.lst [.bl (nameD d), .bl (termD d), .bl b]) p = some (.lst [.bl (nameD d), .bl (termD d), .bl (cellD d)]) ∧ upd H6 r (.lst [.bl (nameD d), .bl (termD d), .bl b]) r' = some (.lst [.bl (nameD d), .bl (termD d), .bl (cellD d)]) := fun b hb r nr => by
        have sr := same_put (o := .lst [.bl (nameD d), .bl (termD d), .bl b]) nr
        exact ⟨s3.trans (s36.trans sr), r, rfl, sr _ _ (s36 _ _ upd_same), by rw [upd_same, hb]⟩
      cases e : termD d with
      | false =>
        rw [e] at end3
        refine iteF ⟨(by show 3 ≤ sizeLine; decide), fun r nr => end3 false ?_ r nr⟩
        cases d with
        | tuple ds => simp [cellD, e]
        | _ => rfl
      | true =>
        rw [e] at end3
        obtain ⟨ds, rfl⟩ := cellD_eq e
        cases hx with
        | @tup a xs _ ha hs =>
        have ln := hs.length
        refine iteT ⟨_, rfl, a, xs, rfl, .inr (SqT.of (s36 _ _ (s3 _ _ ha))), rfl, (by show 3 ≤ sizeLine; decide), fun r nr => end3 _ ?_ r nr⟩
        rw [ln]
        simp [cellD, e]
        omega
    · rintro σ' H7 ⟨s7, r, rfl, ep, er⟩
      have dl : ∀ {b}, H7 b = some (.lst [.bl (nameD d), .bl (termD d), .bl (cellD d)]) → Dx K H7 (.ref b) (.list [.bool (nameD d), .bool (termD d), .bool (cellD d)]) := fun h => .lst h (.cons (.bl _) (.cons (.bl _) (.cons (.bl _) .nil)))
      have sz : (PyData.list [.bool (nameD d), .bool (termD d), .bool (cellD d)]).shown.length + 64 ≤ sizeLine := by
        cases nameD d <;> cases termD d <;> cases cellD d <;> decide
      refine ⟨_, rfl, _, _, rfl, dl ep, rfl, fun z => by simp [PyData.hasDict, PyData.hasDictAll] at z, by simp [PyData.depth, PyData.depthAll], sz, _, rfl, _, _, rfl, dl er, rfl, fun z => by simp [PyData.hasDict, PyData.hasDictAll] at z, by simp [PyData.depth, PyData.depthAll], sz, rfl, _, rfl, ite2 (fun _ => ?_) (fun e => absurd (decide_eq_true rfl) e)⟩
      refine ⟨_, rfl, _, _, rfl, hx.up s7, ml.sw, ml.dl, by omega, fit, _, rfl, rfl, ?_⟩
      rw [decide_eq_true (p := V.str d.shown = V.str d.shown) rfl]
      exact q H7 s7
end
end K01
/-! The law. -/
namespace K01
open PySem PySem.Spec PyProof.Rows L2 Kx
theorem offs_nil {H : Hp} : Same H (OffS [] H) := fun b o h => OffS.out (fun z => nomatch z) h
theorem olds_nil {H : Hp} : Olds [] H := fun b z => nomatch z
section
variable {K : PySem.W.Frag} {σ : L2.St}
theorem asg_at {H : Hp} {te : TE} {d : PyData} {j : Nat} {rest : TS} {D : Ends} (m : MkAt K σ te d) (q : ∀ x H', Same H H' → Dx K H' x d → rest D (σ.set j (some x)) H') : tSeq (tAsg te (gName j)) rest D σ H := m H _ q
theorem ma_str (x : Str) : MkAt K σ (tC (.str x)) (.str x) := fun H Q q => q _ H (Same.refl H) (.str x)
theorem ma_bl (b : Bool) : MkAt K σ (tC (.bl b)) (.bool b) := fun H Q q => q _ H (Same.refl H) (.bl b)
theorem ma_grown {D : Nat → PyData} {E : XK} {t : Int} (n : Nat) (h : t = n + 1) (hn : n ≤ 1000) : MkAt K σ (tCall (spGrown K D) [] E (tCons (tC (.int t)) tNil)) (D n) := fun H Q q => ⟨t, n, rfl, h, hn, q⟩
end
def four : List PyData := [chainD 39, dblD 7, .tuple [.str "f", chainD 38, .tuple [.str "g", .tuple [.str "a"], .tuple [.str "a"]]], .tuple [.str "g", chainD 38, .tuple [.str "b"]]]
def greatD : PyData := .tuple [.str "k", dblD 7, chainD 38, chainD 38]
theorem four_ok : (∀ d, d ∈ four → shortD d = true ∧ szD d ≤ 100000) ∧ pureAll four = true ∧ four.map termD = [true, true, false, false] := by
  have e : (four.all fun d => shortD d && decide (szD d ≤ 100000)) = true ∧ pureAll four = true ∧ four.map termD = [true, true, false, false] := by decide +kernel
  refine ⟨fun d hd => ?_, e.2⟩
  have := List.all_eq_true.mp e.1 d hd
  simpa using this
theorem great_ok : shortD greatD = true ∧ szD greatD ≤ 100000 ∧ termD greatD = true ∧ cellD greatD = false := by decide +kernel
section
variable {P : Program} {w : World} {K : PySem.W.Frag} {mg : Str → Option Value} {base : Heap}
def spBents (K : PySem.W.Frag) : Sp := fun vs H Q E => ∃ n, n ≤ 4 ∧ spBent K n vs H Q E
theorem ok_bents (T : Tx K mg) : FnOk P w K mg base CX0 8 T.a_law_bent T.d_law_bent ["dice", "thing", "deep"] (spBents K) :=
  ⟨fun vs H Q E ⟨n, _, h⟩ => (ok_bent (P := P) (w := w) (base := base) T n).len vs H Q E h, fun A outer s H args us vs Q E hr e0 b r ⟨n, hn, h⟩ => (ok_bent (P := P) (w := w) (base := base) T n).run A outer s H args us vs Q E (hr.mono (by omega)) e0 b r h⟩
def spLaw (K : PySem.W.Frag) : Sp := fun vs H Q _ => ∃ (a : Addr) (ns : List Int), vs = [.ref a] ∧ SqL K H a (ns.map V.int) ∧ ∀ H', Q (.bl true) H'
theorem ok_law (T : Tx K mg) : FnG P w K mg base 20 T.alaw T.dlaw ["script"] (spLaw K) := by
  have nd := sc_law.nd
  have Gdice := ok_dice (P := P) (w := w) (base := base) T
  have Gnames := ok_names (P := P) (w := w) (base := base) T
  have Glt := ok_lt (P := P) (w := w) (base := base) T 4
  have Gterm := ok_term (P := P) (w := w) (base := base) T
  have Gcell := ok_cell (P := P) (w := w) (base := base) T
  have Gmade := ok_made (P := P) (w := w) (base := base) T
  have Godd := ok_odd (P := P) (w := w) (base := base) T
  have Gbent := ok_bents (P := P) (w := w) (base := base) T
  have Gjr := ok_jr (P := P) (w := w) (base := base) T
  have Gcr := ok_cr (P := P) (w := w) (base := base) T
  have Gchain := ok_chain (P := P) (w := w) (base := base) T
  have Gdbl := ok_dbl (P := P) (w := w) (base := base) T
  obtain ⟨tk, cMax⟩ := T.c_MAX_PLACES
  refine okG T.flaw sc_law (fun vs H Q E h => ?_) (fun cdv A outer s H vs Q E cm hr h => ?_)
  · obtain ⟨a, ns, rfl, _⟩ := h
    rfl
  · obtain ⟨a, ns, rfl, hS, q⟩ := h
    refine ⟨_, (pss_cons (ps_for PassesOwn.never rfl (pi_range1 (by rfl) T.b_range (pa_cons (pe_callB (call_max2 rfl) (by rfl) T.b_max (by decide +kernel) (pa_cons pe_int (pa_cons (pe_callB (call_min2 rfl) (by rfl) T.b_min (by decide +kernel) (pa_cons pe_int (pa_cons (pe_callB call_len_seq (by rfl) T.b_len (by decide +kernel) (pa_cons (pv 0) pa_nil)) pa_nil))) pa_nil))) pa_nil)) (pg_name (i := 1) nd rfl (.inl rfl)) (pss_cons (ps_set (i := 2) nd rfl (.inr rfl) (pe_call Gdice (hr.mono (by decide)) (by rfl) T.g_law_dice T.f_law_dice.kp T.n_law_dice .nil pass0 (pa_cons (pv 0) (pa_cons (pv 1) pa_nil))))
      (pss_cons (ps_set (i := 3) nd rfl (.inl rfl) (pe_call Gnames (hr.mono (by decide)) (by rfl) T.g_law_names T.f_law_names.kp T.n_law_names .nil pass0 (pa_cons (pv 2) (pa_cons pe_int pa_nil))))
      (pss_cons (ps_for PassesOwn.never rfl (pi_range1 (by rfl) T.b_range (pa_cons pe_int pa_nil)) (pg_name (i := 4) nd rfl (.inl rfl)) (pss_cons (ps_set (i := 5) nd rfl (.inr rfl) (pe_call Glt (hr.mono (by decide)) (by rfl) T.g_law_term T.f_law_term.kp T.n_law_term .nil pass0 (pa_cons (pv 2) (pa_cons (pv 3) (pa_cons pe_int pa_nil)))))
      (pss_cons (ps_if (PW.pt (pw_or (pt_cmpR op_notBl (pe_call Gterm (hr.mono (by decide)) (by rfl) T.gis_term T.fis_term.kp T.nis_term .nil pass0 (pa_cons (pv 5) pa_nil)) pe_bl (nomark _)) (pw_or1 (pt_cmpR (op_neD hr.units) (pe_call Gmade (hr.mono (by decide)) (by rfl) T.g_law_made T.f_law_made.kp T.n_law_made .nil pass0 (pa_cons (pe_ix ix_tup (pv 5) pe_int (fun _ _ => rfl)) (pa_cons (pe_slice sl_tupA (pv 5) (po_some pe_int) po_none) pa_nil))) (pv 5) (nomark _))))) (pss_one (ps_ret pe_bl)) pss_nil)
      (pss_cons (ps_set (i := 6) nd rfl (.inl rfl) (pe_lst (pa_cons (pv 5) (pa_cons (pe_ix ix_tup (pv 5) pe_int (fun _ _ => rfl)) (pa_cons (pe_call Godd (hr.mono (by decide)) (by rfl) T.g_law_odd T.f_law_odd.kp T.n_law_odd .nil pass0 (pa_cons (pv 2) pa_nil)) pa_nil)))))
      (pss_cons (ps_set (i := 6) nd rfl (.inl rfl) (pe_op op_cat (pv 6) (pe_lc (own := [("deep", 8)]) (g := (gName 8)) (tt := tYes) (by rfl) nd (pi_tup (pe_tup (pa_cons pe_int (pa_cons pe_int (pa_cons pe_int (pa_cons pe_int pa_nil)))))) (blkOk_by (own := [("deep", 8)]) (N := N_law) (sc := defScope s_law) (by decide +kernel)) (fun _ _ _ _ _ => pg_name (i := 8) nd rfl (.inl rfl)) (fun _ _ _ _ _ => pts_nil) (fun _ _ _ _ _ => (pe_call Gbent (hr.mono (by decide)) (by rfl) T.g_law_bent T.f_law_bent.kp T.n_law_bent .nil pass0 (pa_cons (pv 2) (pa_cons (pv 5) (pa_cons (pv 8) pa_nil))))))))
      (pss_one (ps_if (pt_cmpR (op_neNil hr.units) (pe_lc (own := [("thing", 9)]) (g := (gName 9)) (by rfl) nd (pi_list (pv 6)) (blkOk_by (own := [("thing", 9)]) (N := N_law) (sc := defScope s_law) (by decide +kernel)) (fun _ _ _ _ _ => pg_name (i := 9) nd rfl (.inl rfl)) (fun _ _ _ _ _ => (pts_one (pt_not (pt_val (pe_callG Gjr cm (hr.mono (by decide)) (by rfl) T.g_law_judged_right T.f_law_judged_right.kp T.n_law_judged_right (pa_cons (pv 9) pa_nil)))))) (fun _ _ _ _ _ => (pv 9))) (pe_lst pa_nil) (nomark _)) (pss_one (ps_ret pe_bl)) pss_nil)))))))
      (pss_one (ps_if (pt_not (pt_val (pe_call Gcr (hr.mono (by decide)) (by rfl) T.g_law_cells_right T.f_law_cells_right.kp T.n_law_cells_right .nil pass0 (pa_cons (pv 2) pa_nil)))) (pss_one (ps_ret pe_bl)) pss_nil))))))
      (pss_cons (ps_set (i := 6) nd rfl (.inl rfl) (pe_lst (pa_cons (pe_call Gchain (hr.mono (by decide)) (by rfl) T.g_law_chain T.f_law_chain.kp T.n_law_chain .nil pass0 (pa_cons pe_int pa_nil)) (pa_cons (pe_call Gdbl (hr.mono (by decide)) (by rfl) T.g_law_doubled T.f_law_doubled.kp T.n_law_doubled .nil pass0 (pa_cons pe_int pa_nil)) (pa_cons (pe_tup (pa_cons pe_str (pa_cons (pe_call Gchain (hr.mono (by decide)) (by rfl) T.g_law_chain T.f_law_chain.kp T.n_law_chain .nil pass0 (pa_cons pe_int pa_nil)) (pa_cons (pe_tup (pa_cons pe_str (pa_cons (pe_tup (pa_cons pe_str pa_nil)) (pa_cons (pe_tup (pa_cons pe_str pa_nil)) pa_nil)))) pa_nil)))) pa_nil)))))
      (pss_cons (ps_expr (pe_bm PySem.F.plainAttrs_list PySem.F.slot_list_append PySem.F.type_list_append mt_append (pv 6) (pa_cons (pe_tup (pa_cons pe_str (pa_cons (pe_call Gchain (hr.mono (by decide)) (by rfl) T.g_law_chain T.f_law_chain.kp T.n_law_chain .nil pass0 (pa_cons pe_int pa_nil)) (pa_cons (pe_tup (pa_cons pe_str pa_nil)) pa_nil)))) pa_nil)))
      (pss_cons (ps_set (i := 7) nd rfl (.inl rfl) (pe_tup (pa_cons pe_str (pa_cons (pe_call Gdbl (hr.mono (by decide)) (by rfl) T.g_law_doubled T.f_law_doubled.kp T.n_law_doubled .nil pass0 (pa_cons pe_int pa_nil)) (pa_cons (pe_call Gchain (hr.mono (by decide)) (by rfl) T.g_law_chain T.f_law_chain.kp T.n_law_chain .nil pass0 (pa_cons pe_int pa_nil)) (pa_cons (pe_call Gchain (hr.mono (by decide)) (by rfl) T.g_law_chain T.f_law_chain.kp T.n_law_chain .nil pass0 (pa_cons pe_int pa_nil)) pa_nil))))))
      (pss_cons (ps_if (PW.pt (pw_or (pt_cmpR op_notBl (pe_call Gterm (hr.mono (by decide)) (by rfl) T.gis_term T.fis_term.kp T.nis_term .nil pass0 (pa_cons (pv 7) pa_nil)) pe_bl (nomark _)) (pw_or1 (pt_cmpR op_notBl (pe_call Gcell (hr.mono (by decide)) (by rfl) T.gis_cell T.fis_cell.kp T.nis_cell .nil pass0 (pa_cons (pv 7) pa_nil)) pe_bl (nomark _))))) (pss_one (ps_ret pe_bl)) pss_nil)
      (pss_one (ps_ret (pe_and (pe_cmpR op_eq (pe_glob (v := .int 3) (by rfl) cMax ⟨_, rfl⟩) pe_int (nomark _)) (pe_one (pe_cmpR (op_eqD hr.units) (pe_lc (own := [("term", 5)]) (g := (gName 5)) (tt := tYes) (by rfl) nd (pi_list (pv 6)) (blkOk_by (own := [("term", 5)]) (N := N_law) (sc := defScope s_law) (by decide +kernel)) (fun _ _ _ _ _ => pg_name (i := 5) nd rfl (.inl rfl)) (fun _ _ _ _ _ => pts_nil) (fun _ _ _ _ _ => (pe_call Gterm (hr.mono (by decide)) (by rfl) T.gis_term T.fis_term.kp T.nis_term .nil pass0 (pa_cons (pv 5) pa_nil)))) (pe_lst (pa_cons pe_bl (pa_cons pe_bl (pa_cons pe_bl (pa_cons pe_bl pa_nil))))) (nomark _))))))))))), ?_⟩
    have jb : ∀ n : Nat, 1 ≤ (if (if (n : Int) < 6 then (n : Int) else 6) > 1 then (if (n : Int) < 6 then (n : Int) else 6) else 1) ∧ (if (if (n : Int) < 6 then (n : Int) else 6) > 1 then (if (n : Int) < 6 then (n : Int) else 6) else 1) ≤ 6 := fun n => by
      split <;> split <;> omega
    obtain ⟨j1, j2⟩ := jb (ns.map V.int).length
    refine ⟨_, rfl, a, _, rfl, .inl hS, 6, _, rfl, 1, _, rfl, _, rfl, by omega, by omega, ?_⟩
    generalize (if (if (((ns.map V.int).length : Nat) : Int) < 6 then (((ns.map V.int).length : Nat) : Int) else 6) > 1 then (if (((ns.map V.int).length : Nat) : Int) < 6 then (((ns.map V.int).length : Nat) : Int) else 6) else 1) = j at j1 j2 ⊢
    refine for_range (fun i σ H' => Same H H' ∧ ∃ y1 y2 y3 y4 y5 y6 y7 y8 y9, σ = [some (.ref a), y1, y2, y3, y4, y5, y6, y7, y8, y9]) ⟨Same.refl H, none, none, none, none, none, none, none, none, none, rfl⟩ ?_ ?_
    · rintro i σ H1 hi ⟨s1, y1, y2, y3, y4, y5, y6, y7, y8, y9, rfl⟩
      have hS1 : SqL K H1 a (ns.map V.int) := by
        rcases hS with (h | ⟨o, h⟩) | h
        · exact .inl (.inl (s1 _ _ h))
        · exact .inl (.inr ⟨o, s1 _ _ h⟩)
        · exact .inr h
      refine ⟨_, rfl, _, rfl, a, ns, i, ?_, hS1, by omega, fun H2 p s2 np d0 => ?_⟩
      · rw [Int.zero_add]
        rfl
      refine ⟨_, rfl, p, 0, rfl, d0, by decide, fun nm zs H3 bt3 dd3 nn npn rn gd => ?_⟩
      have nH : H p = none := by
        cases e : H p with
        | none => rfl
        | some o =>
          rw [s1 _ _ e] at np
          cases np
      have keep : ∀ {G G' : Hp}, Same H G → But p G G' → Same H G' := fun sG bG b o e => bG b o (sG b o e) (ne_of_none e nH)
      have s3 := keep (s1.trans s2) bt3
      have dd3 : Dice H3 p 100 := dd3
      have rn3 := rn
      refine ⟨6, rfl, by decide, by decide, for_range (fun k σ H' => Same H H' ∧ Dice H' p (100 + 150 * k) ∧ RowsIn H' nm zs ∧ ∃ y1 y4 y5 y6 y7 y8 y9, σ = [some (.ref a), y1, some (.ref p), some (.ref nm), y4, y5, y6, y7, y8, y9]) ⟨s3, dd3, rn3, _, _, _, _, _, _, _, rfl⟩ ?_ ?_⟩
      · rintro k σ G1 hk ⟨sG, dG, rG, z1, z4, z5, z6, z7, z8, z9, rfl⟩
        have hk : k < 6 := hk
        refine ⟨_, rfl, _, rfl, p, nm, 100 + 150 * k, zs, rfl, by decide, dG, ?_, rG, npn, gd, fun x d H4 bt4 dd4 dx tm => ?_⟩
        · show 100 + 150 * k + 80 < 1000000
          omega
        have dd4 : Dice H4 p (100 + 150 * k + 80) := dd4
        have r4 := rG.but bt4 dG npn
        have s4 := keep sG bt4
        have fn : Func (rowsD d) := fun r hr t ht e => gd.fn r (tm.rw r hr) t (tm.rw t ht) e
        have ht : termD d = true := by
          rw [termD, tm.fm, decide_eq_true fn]
          rfl
        have pd := plain_formed d tm.fm
        have zz := size_formed d 4 tm.fm tm.dp
        have zz1 : wD d ≤ 40 := zz.1
        have zz2 : d.shown.length ≤ 3720 := zz.2
        have dz : Dz K H4 x d := ⟨dx, pd.short, by have := sz_le d; omega⟩
        obtain ⟨x1, ds, ed, l3, hn, hfa⟩ := formed_shape tm.fm
        have dpd := tm.dp
        obtain ⟨b, ws, rfl, eb, dws⟩ : ∃ b ws, x = .ref b ∧ H4 b = some (.tup (.str x1 :: ws)) ∧ DxAll K H4 ws ds := by
          rw [ed] at dx
          cases dx with
          | @tup b xs _ hb hs =>
          cases hs with
          | cons h0 ht =>
          cases h0
          exact ⟨b, _, rfl, hb, ht⟩
        -- is_term, and made anew
        refine ⟨_, rfl, _, d, rfl, dz, fun H5 s5 => ?_⟩
        rw [ht]
        refine ⟨true, true, rfl, rfl, _, rfl, iteF ?_⟩
        have eb5 := s5 _ _ eb
        have dx5 := dx.up s5
        refine ⟨_, rfl, b, _, 0, .str x1, rfl, rfl, SqT.of eb5, atI_nat (j := 0) rfl, _, rfl, 1, rfl, ?_⟩
        dsimp only [tNoPart]
        have dx5' : Dx K (OffS [] H5) (.ref b) (.tuple (.str x1 :: ds)) := by
          rw [← ed]
          exact dx5.up offs_nil
        refine sl_from (i := 1) dx5' olds_nil fun y H6 s6 dy => ?_
        have dy := dy.up OffS.all
        rw [List.drop_one, List.tail_cons] at dy
        cases dy with
        | @tup c us _ hc hus =>
        refine ⟨x1, c, us, ds, rfl, hc, hus, by rw [← ed]; exact pd.short, by rw [← ed]; exact dz.2.2, by rw [← ed]; exact ht, fun p7 H7 s7 e7 => ⟨_, rfl, ?_⟩⟩
        have d7 : Dx K H7 (.ref p7) d := by
          rw [ed]
          exact .tup e7 (.cons (.str _) (hus.up s7))
        have dx7 := dx5.up (s6.trans s7)
        refine ⟨d, d, d7.dp pd.hd, dx7.dp pd.hd, shaped_of pd (by omega), shaped_of pd (by omega), _, rfl, ?_⟩
        rw [SeqAt.eqv_refl _ pd.lay]
        refine iteF ?_
        have s47 := s5.trans (s6.trans s7)
        have dd7 := dd4.up s47
        have eb7 := s47 _ _ eb
        have sH7 := s4.trans s47
        have r7 := r4.up s47
        -- the values to be judged
        have one : Olds [p] H7 := fun c hc => by
          rw [List.mem_singleton.mp hc]
          obtain ⟨_, _, _, z, _⟩ := dd7
          rw [z]
          exact fun e => nomatch e
        refine ⟨_, rfl, _, rfl, b, _, 0, .str x1, rfl, rfl, SqT.of eb7, atI_nat (j := 0) rfl, _, rfl, p, 100 + 150 * k + 80, [p], rfl, dd7, by show 100 + 150 * k + 80 + 1 < 1000000; omega, List.mem_singleton.mpr rfl, one, fun o od H8 bt8 dd8 dod mo => ⟨(by show 3 ≤ sizeLine; decide), fun q8 nq8 => ?_⟩⟩
        have s8 := same_put (o := .lst [.ref b, .str x1, o]) nq8
        have t8 : Tups H7 H8 := Tups.but bt8 dd7
        have dx8 := Dx.ts t8 d _ pd.pure dx7
        have r8 := r7.but bt8 dd7 npn
        have sH8 := keep sH7 bt8
        refine ⟨_, rfl, (by show 4 ≤ sizeLine; decide), fun u nu => ⟨u, rfl, ⟨_, SqT.of upd_same⟩, fun D nD => ?_⟩⟩
        have su := same_put (o := .tup [.int 1, .int 2, .int 3, .int 4]) nu
        have sD := same_put (o := .lst []) nD
        have ddu := dd8.up (s8.trans su)
        have npD := ddu.ne nD
        have b10 : But p H8 (upd (upd (upd H8 q8 (.lst [.ref b, .str x1, o])) u (.tup [.int 1, .int 2, .int 3, .int 4])) D (.lst [])) := But.of (s8.trans (su.trans sD))
        have nDH8 := But.free (But.of (s8.trans su)) npD nD
        have eq8 := sD _ _ (su _ _ (upd_same (H := H8) (a := q8) (o := .lst [.ref b, .str x1, o])))
        have eu := sD _ _ (upd_same (H := upd H8 q8 (.lst [.ref b, .str x1, o])) (a := u) (o := .tup [.int 1, .int 2, .int 3, .int 4]))
        have nq8p := dd8.ne nq8
        have nqD : q8 ≠ D := ne_of_none (su _ _ (upd_same (H := H8) (a := q8) (o := .lst [.ref b, .str x1, o]))) nD
        have ddD := ddu.up sD
        have eD := (upd_same (H := upd (upd H8 q8 (.lst [.ref b, .str x1, o])) u (.tup [.int 1, .int 2, .int 3, .int 4])) (a := D) (o := .lst []))
        refine lc_tup (K := K) (a := u) (xs := [.int 1, .int 2, .int 3, .int 4]) (fun i H' => But p H8 H' ∧ Dice H' p (100 + 150 * k + 81 + 17 * i) ∧ H' u = some (.tup [.int 1, .int 2, .int 3, .int 4]) ∧ H' q8 = some (.lst [.ref b, .str x1, o]) ∧ ∃ (ys : List V) (es : List PyData), H' D = some (.lst ys) ∧ DxAll K (OffS [p, D] H') ys es ∧ es.length = i ∧ ∀ e, e ∈ es → Mild e 10 60 9000)
          ⟨b10, ddD, eu, eq8, [], [], eD, .nil, rfl, fun e h => nomatch h⟩ (fun i H' _ h => SqT.of h.2.2.1) ?_ ?_
        · rintro i y H' hi ⟨bt, dd, eu', eq', ys, es, eD', dys, les, mes⟩
          obtain ⟨n, hn, rfl, i4⟩ : ∃ n : Nat, n ≤ 4 ∧ y = V.int (n : Int) ∧ i < 4 := by
            match i, hi with
            | 0, hi => cases hi; exact ⟨1, by decide, rfl, by decide⟩
            | 1, hi => cases hi; exact ⟨2, by decide, rfl, by decide⟩
            | 2, hi => cases hi; exact ⟨3, by decide, rfl, by decide⟩
            | 3, hi => cases hi; exact ⟨4, by decide, rfl, by decide⟩
            | i + 4, hi => simp at hi
          have two : Olds [p, D] H' := fun c hc => by
            rcases List.mem_cons.mp hc with rfl | hc
            · obtain ⟨_, _, _, z, _⟩ := dd
              rw [z]
              exact fun e => nomatch e
            · rw [List.mem_singleton.mp hc, eD']
              exact fun e => nomatch e
          have tps : Tups H8 (OffS [p, D] H') := fun c vs hc => by
            have e1 : c ≠ p := fun z => by
              obtain ⟨_, _, _, z2, _⟩ := dd8
              rw [z, z2] at hc
              cases hc
            refine OffS.out (fun z => ?_) (bt c _ hc e1)
            rcases List.mem_cons.mp z with z | z
            · exact e1 z
            · rw [List.mem_singleton.mp z, nDH8] at hc
              cases hc
          refine ⟨rfl, (iteT (B := False) ?_ : if true = true then _ else False)⟩
          refine ⟨_, rfl, _, rfl, _, rfl, n, hn, p, 100 + 150 * k + 81 + 17 * i, [p, D], .ref b, d, rfl, dd, by show 100 + 150 * k + 81 + 17 * i + (3 * n + 5) < 1000000; omega, .head _, two, Dx.ts tps d _ pd.pure dx8, .inl tm.fm, by omega, fun y2 e2 H'' bt2 dd2 dy2 ml => ?_⟩
          have eD2 := bt2 _ _ eD' npD
          have gone : Same (OffS [p, D] H'') (OffS [p, D] (upd H'' D (.lst (ys ++ [y2])))) := fun c ob hc => by
            obtain ⟨nc, hc⟩ := OffS.of hc
            refine OffS.out nc ?_
            rw [upd_ne (fun z => nc (by rw [z]; exact .tail _ (.head _)))]
            exact hc
          have lys := dys.length
          refine ⟨ys, eD2, small1000 (by omega), (bt.trans bt2).put nDH8, (dd2.put npD).le (by omega), ?_, ?_, ys ++ [y2], es ++ [e2], upd_same, DxAll.append (dys.up ((bt2.offs (.head _)).trans gone)) (.cons (dy2.up gone) .nil), by rw [List.length_append, les]; rfl, fun e he => ?_⟩
          · have nup : u ≠ p := fun z => by
              obtain ⟨_, _, _, z2, _⟩ := dd
              rw [z, z2] at eu'
              cases eu'
            rw [upd_ne (ne_of eu' eD' (fun e => nomatch e))]
            exact bt2 _ _ eu' nup
          · rw [upd_ne nqD]
            exact bt2 _ _ eq' nq8p
          · rcases List.mem_append.mp he with h | h
            · exact mes e h
            · rw [List.mem_singleton.mp h]
              exact ml.le (by omega) (by omega) (by omega)
        · rintro H' ⟨bt, dd, eu', eq', ys, es, eD', dys, les, mes⟩
          have lys := dys.length
          have les : es.length = 4 := les
          refine ⟨q8, D, _, _, rfl, rfl, eq', eD', Nat.le_of_lt (small1000 (by show 3 + ys.length ≤ 1000; omega)), fun r nr => ?_⟩
          have sr := same_put (o := .lst ([.ref b, .str x1, o] ++ ys)) nr
          have tps : Tups H8 H' := Tups.but bt dd8
          have dxr := (Dx.ts tps d _ pd.pure dx8).up sr
          have dor := ((dod.up (bt.offs (.head _))).up OffS.all).up sr
          have dyr := (dys.up OffS.all).up sr
          have all : DxAll K (upd H' r (.lst ([.ref b, .str x1, o] ++ ys))) ([.ref b, .str x1, o] ++ ys) (d :: .str x1 :: od :: es) := .cons dxr (.cons (.str x1) (.cons dor dyr))
          have mall : ∀ e, e ∈ d :: PyData.str x1 :: od :: es → Mild e 10 60 9000 := fun e he => by
            rcases List.mem_cons.mp he with rfl | he
            · exact pd.mild.le (by omega) (by omega) (by omega)
            · rcases List.mem_cons.mp he with rfl | he
              · have nx := nm_ok hn
                exact (plain_name (d := .str x1) hn).mild.le (Nat.zero_le _) (Nat.zero_le _) (by simp only [PyData.shown]; omega)
              · rcases List.mem_cons.mp he with rfl | he
                · exact (odds_mild _ mo).le (by decide) (by decide) (by decide)
                · exact mes e he
          have er : (upd H' r (.lst ([.ref b, .str x1, o] ++ ys))) r = some (.lst ([.ref b, .str x1, o] ++ ys)) := upd_same
          have bR := bt.trans (But.of sr)
          have ddR := dd.up sr
          generalize upd H' r (.lst ([.ref b, .str x1, o] ++ ys)) = H12 at all er bR ddR
          have lall := all.length
          refine ⟨_, rfl, r, rfl, ⟨_, .inl (.inl er)⟩, fun D2 nD2 => ?_⟩
          have sD2 := same_put (o := .lst []) nD2
          refine lc_list (K := K) (a := r) (xs := [.ref b, .str x1, o] ++ ys) (fun i H13 => Same H12 H13 ∧ H13 D2 = some (.lst [])) ⟨sD2, upd_same⟩ (fun i H13 _ h => .inl (.inl (h.1 _ _ er))) ?_ ?_
          · rintro i v H13 hi ⟨s13, e13⟩
            have lt : i < (d :: PyData.str x1 :: od :: es).length := by
              rw [← lall]
              exact (List.getElem?_eq_some_iff.mp hi).1
            obtain ⟨v2, hv, dv⟩ := all.get (List.getElem?_eq_getElem lt)
            rw [hi] at hv
            cases hv
            refine ⟨rfl, _, rfl, v, _, rfl, dv.up s13, mall _ (List.getElem_mem lt), fun H14 s14 => ⟨_, rfl, iteF ⟨s13.trans s14, s14 _ _ e13⟩⟩⟩
          · rintro H13 ⟨s13, e13⟩
            refine ⟨Nat.zero_le _, fun e ne => ⟨D2, e, [], rfl, rfl, .inl (.inl (same_put ne _ _ e13)), .inl (.inl upd_same), _, rfl, iteF ?_⟩⟩
            have s15 := s13.trans (same_put (o := .lst []) ne)
            have b15 := bR.trans (But.of s15)
            exact ⟨keep sH8 b15, (ddR.up s15).le (by show 100 + 150 * k + 81 + 17 * 4 ≤ 100 + 150 * (k + 1); omega), r8.but b15 dd8 npn, _, _, _, _, _, _, _, rfl⟩
      · rintro σ G1 ⟨sG, dG, rG, z1, z4, z5, z6, z7, z8, z9, rfl⟩
        have dG : Dice G1 p 1000 := dG
        exact ⟨_, rfl, p, 1000, rfl, dG, by decide, fun H' bt dd => ⟨_, rfl, iteF ⟨keep sG bt, _, _, _, _, _, _, _, _, _, rfl⟩⟩⟩
    · rintro σ H1 ⟨s1, y1, y2, y3, y4, y5, y6, y7, y8, y9, rfl⟩
      -- the great ones
      have few : ∀ {ds : List PyData}, ds.length ≤ 9 → ds.length ≤ sizeLine := fun h => Nat.le_of_lt (small1000 (by omega))
      have f3 : ∀ {ds : List PyData}, ds.length = 3 → ds.length ≤ sizeLine := fun h => few (by omega)
      have f1 : ∀ {ds : List PyData}, ds.length = 1 → ds.length ≤ sizeLine := fun h => few (by omega)
      have f4 : ∀ {ds : List PyData}, ds.length = 4 → ds.length ≤ sizeLine := fun h => few (by omega)
      have mk1 : MkAt K [some (.ref a), y1, y2, y3, y4, y5, y6, y7, y8, y9] _ (.list [chainD 39, dblD 7, .tuple [.str "f", chainD 38, .tuple [.str "g", .tuple [.str "a"], .tuple [.str "a"]]]]) :=
        ma_lst (ma_cons (ma_grown (D := chainD) (E := E0) (t := 40) 39 rfl (by decide)) (ma_cons (ma_grown (D := dblD) (E := E0) (t := 8) 7 rfl (by decide)) (ma_cons (ma_tup (ma_cons (ma_str "f") (ma_cons (ma_grown (D := chainD) (E := E0) (t := 39) 38 rfl (by decide)) (ma_cons (ma_tup (ma_cons (ma_str "g") (ma_cons (ma_tup (ma_cons (ma_str "a") ma_nil) (f1 rfl)) (ma_cons (ma_tup (ma_cons (ma_str "a") ma_nil) (f1 rfl)) ma_nil))) (f3 rfl)) ma_nil))) (f3 rfl)) ma_nil))) (f3 rfl)
      refine asg_at mk1 fun x2 H2 s2 d2 => ?_
      cases d2 with
      | @lst l2 xs2 _ e2 dx2 =>
      have l2n : xs2.length = 3 := dx2.length
      have mk2 : MkAts K [some (.ref a), y1, y2, y3, y4, y5, some (.ref l2), y7, y8, y9] _ [.tuple [.str "g", chainD 38, .tuple [.str "b"]]] :=
        ma_cons (ma_tup (ma_cons (ma_str "g") (ma_cons (ma_grown (D := chainD) (E := E0) (t := 39) 38 rfl (by decide)) (ma_cons (ma_tup (ma_cons (ma_str "b") ma_nil) (f1 rfl)) ma_nil))) (f3 rfl)) ma_nil
      refine ⟨_, rfl, .inl ⟨rfl, _, .inl (.inl e2)⟩, ?_⟩
      refine mk2 _ _ fun xs3 H3 s3 d3 => ?_
      cases d3 with
      | @cons v3 _ _ _ dv3 dn =>
      cases dn
      have e23 := s3 _ _ e2
      refine ⟨l2, xs2, v3, rfl, rfl, e23, small1000 (by omega), ?_⟩
      have tp : Tups H3 (upd H3 l2 (.lst (xs2 ++ [v3]))) := Tups.lst e23
      have d4 : DxAll K (upd H3 l2 (.lst (xs2 ++ [v3]))) (xs2 ++ [v3]) four := DxAll.ts tp four _ four_ok.2.1 (DxAll.append (dx2.up s3) (.cons dv3 .nil))
      have e4 : (upd H3 l2 (.lst (xs2 ++ [v3]))) l2 = some (.lst (xs2 ++ [v3])) := upd_same
      generalize upd H3 l2 (.lst (xs2 ++ [v3])) = H4 at d4 e4 ⊢
      have mk3 : MkAt K [some (.ref a), y1, y2, y3, y4, y5, some (.ref l2), y7, y8, y9] _ greatD :=
        ma_tup (ma_cons (ma_str "k") (ma_cons (ma_grown (D := dblD) (E := E0) (t := 8) 7 rfl (by decide)) (ma_cons (ma_grown (D := chainD) (E := E0) (t := 39) 38 rfl (by decide)) (ma_cons (ma_grown (D := chainD) (E := E0) (t := 39) 38 rfl (by decide)) ma_nil)))) (f4 rfl)
      refine asg_at mk3 fun x5 H5 s5 d5 => ?_
      have g := great_ok
      have dz5 : Dz K H5 x5 greatD := ⟨d5, g.1, g.2.1⟩
      refine ⟨_, rfl, x5, greatD, rfl, dz5, fun H6 s6 => ?_⟩
      rw [g.2.2.1]
      refine ⟨true, true, rfl, rfl, _, rfl, iteF ⟨_, rfl, x5, greatD, rfl, dz5.up s6, fun H7 s7 => ?_⟩⟩
      rw [g.2.2.2]
      refine ⟨false, false, rfl, rfl, _, rfl, iteF ?_⟩
      have s57 := s5.trans (s6.trans s7)
      have e7 := s57 _ _ e4
      have d7 := d4.up s57
      refine ⟨rfl, _, rfl, ite2 (fun _ => ?_) (fun e => absurd (decide_eq_true rfl) e)⟩
      refine ⟨_, rfl, l2, rfl, ⟨_, .inl (.inl e7)⟩, fun D nD => ?_⟩
      have l7 := d7.length
      refine lc_list (K := K) (a := l2) (xs := xs2 ++ [v3]) (fun i H' => Same H7 H' ∧ H' D = some (.lst (((four.map termD).take i).map V.bl))) ⟨same_put nD, upd_same⟩ (fun i H' _ h => .inl (.inl (h.1 _ _ e7))) ?_ ?_
      · rintro i v H' hi ⟨s8, e8⟩
        have lt : i < four.length := by
          rw [← l7]
          exact (List.getElem?_eq_some_iff.mp hi).1
        have lt4 : i < 4 := lt
        obtain ⟨v2, hv, dv⟩ := d7.get (List.getElem?_eq_getElem lt)
        rw [hi] at hv
        cases hv
        have ok := four_ok.1 _ (List.getElem_mem lt)
        refine ⟨rfl, (iteT (B := False) ?_ : if true = true then _ else False)⟩
        refine ⟨_, rfl, v, four[i], rfl, ⟨dv.up s8, ok.1, ok.2⟩, fun H9 s9 => ⟨_, s9 _ _ e8, ?_, fun c o hc => ?_, ?_⟩⟩
        · rw [List.length_map, List.length_take]
          exact small1000 (by omega)
        · rw [upd_ne (ne_of_none hc nD)]
          exact s9 _ _ (s8 _ _ hc)
        · rw [upd_same, List.take_add_one, List.getElem?_map, List.getElem?_eq_getElem lt, List.map_append]
          rfl
      · rintro H' ⟨s8, e8⟩
        have l4 : (xs2 ++ [v3]).length = (four.map termD).length := by
          rw [l7, List.length_map]
        rw [l4, List.take_length, four_ok.2.2] at e8
        refine ⟨(by show 4 ≤ sizeLine; decide), fun e ne => ?_⟩
        have dpl : ∀ {c}, (upd H' e (.lst [.bl true, .bl true, .bl false, .bl false])) c = some (.lst [.bl true, .bl true, .bl false, .bl false]) → Dp K (upd H' e (.lst [.bl true, .bl true, .bl false, .bl false])) (.ref c) (.list [.bool true, .bool true, .bool false, .bool false]) := fun h => .lst (.inl (.inl h)) (.cons (.bl _) (.cons (.bl _) (.cons (.bl _) (.cons (.bl _) .nil))))
        exact ⟨_, _, dpl (same_put ne _ _ e8), dpl upd_same, by decide, by decide, q _⟩
end
end K01
open PySem PySem.Spec PyProof.Rows L2 Kx
theorem K01.tx_mk {K : PySem.W.Frag} {h : Heap} {mg : Str → Option Value} (X : K.In h) (G : h.Ns mainGlobals mg)
    {fis_name : Addr} {odis_name anis_name : Option Addr} {slis_name : Array (Option Value)} {ocis_name kVis_name dcis_name pmis_name cdis_name ctis_name : Value}
    {fis_term : Addr} {odis_term anis_term : Option Addr} {slis_term : Array (Option Value)} {ocis_term kVis_term dcis_term pmis_term cdis_term ctis_term : Value}
    {fis_cell : Addr} {odis_cell anis_cell : Option Addr} {slis_cell : Array (Option Value)} {ocis_cell kVis_cell dcis_cell pmis_cell cdis_cell ctis_cell : Value}
    {fmake_term : Addr} {odmake_term anmake_term : Option Addr} {slmake_term : Array (Option Value)} {ocmake_term kVmake_term dcmake_term pmmake_term cdmake_term ctmake_term : Value}
    {fmake_cells : Addr} {odmake_cells anmake_cells : Option Addr} {slmake_cells : Array (Option Value)} {ocmake_cells kVmake_cells dcmake_cells pmmake_cells cdmake_cells ctmake_cells : Value}
    {fcheck_term : Addr} {odcheck_term ancheck_term : Option Addr} {slcheck_term : Array (Option Value)} {occheck_term kVcheck_term dccheck_term pmcheck_term cdcheck_term ctcheck_term : Value}
    {fjoint_places : Addr} {odjoint_places anjoint_places : Option Addr} {sljoint_places : Array (Option Value)} {ocjoint_places kVjoint_places dcjoint_places pmjoint_places cdjoint_places ctjoint_places : Value}
    {fhas_form : Addr} {odhas_form anhas_form : Option Addr} {slhas_form : Array (Option Value)} {ochas_form kVhas_form dchas_form pmhas_form cdhas_form cthas_form : Value}
    {f_law_dice : Addr} {od_law_dice an_law_dice : Option Addr} {sl_law_dice : Array (Option Value)} {oc_law_dice kV_law_dice dc_law_dice pm_law_dice cd_law_dice ct_law_dice : Value}
    {f_law_roll : Addr} {od_law_roll an_law_roll : Option Addr} {sl_law_roll : Array (Option Value)} {oc_law_roll kV_law_roll dc_law_roll pm_law_roll cd_law_roll ct_law_roll : Value}
    {f_law_pick : Addr} {od_law_pick an_law_pick : Option Addr} {sl_law_pick : Array (Option Value)} {oc_law_pick kV_law_pick dc_law_pick pm_law_pick cd_law_pick ct_law_pick : Value}
    {f_law_mixed : Addr} {od_law_mixed an_law_mixed : Option Addr} {sl_law_mixed : Array (Option Value)} {oc_law_mixed kV_law_mixed dc_law_mixed pm_law_mixed cd_law_mixed ct_law_mixed : Value}
    {f_law_below : Addr} {od_law_below an_law_below : Option Addr} {sl_law_below : Array (Option Value)} {oc_law_below kV_law_below dc_law_below pm_law_below cd_law_below ct_law_below : Value}
    {f_law_names : Addr} {od_law_names an_law_names : Option Addr} {sl_law_names : Array (Option Value)} {oc_law_names kV_law_names dc_law_names pm_law_names cd_law_names ct_law_names : Value}
    {f_law_term : Addr} {od_law_term an_law_term : Option Addr} {sl_law_term : Array (Option Value)} {oc_law_term kV_law_term dc_law_term pm_law_term cd_law_term ct_law_term : Value}
    {f_law_is_name : Addr} {od_law_is_name an_law_is_name : Option Addr} {sl_law_is_name : Array (Option Value)} {oc_law_is_name kV_law_is_name dc_law_is_name pm_law_is_name cd_law_is_name ct_law_is_name : Value}
    {f_law_is_formed : Addr} {od_law_is_formed an_law_is_formed : Option Addr} {sl_law_is_formed : Array (Option Value)} {oc_law_is_formed kV_law_is_formed dc_law_is_formed pm_law_is_formed cd_law_is_formed ct_law_is_formed : Value}
    {f_law_is_term : Addr} {od_law_is_term an_law_is_term : Option Addr} {sl_law_is_term : Array (Option Value)} {oc_law_is_term kV_law_is_term dc_law_is_term pm_law_is_term cd_law_is_term ct_law_is_term : Value}
    {f_law_odd : Addr} {od_law_odd an_law_odd : Option Addr} {sl_law_odd : Array (Option Value)} {oc_law_odd kV_law_odd dc_law_odd pm_law_odd cd_law_odd ct_law_odd : Value}
    {f_law_bent : Addr} {od_law_bent an_law_bent : Option Addr} {sl_law_bent : Array (Option Value)} {oc_law_bent kV_law_bent dc_law_bent pm_law_bent cd_law_bent ct_law_bent : Value}
    {f_law_made : Addr} {od_law_made an_law_made : Option Addr} {sl_law_made : Array (Option Value)} {oc_law_made kV_law_made dc_law_made pm_law_made cd_law_made ct_law_made : Value}
    {f_law_chain : Addr} {od_law_chain an_law_chain : Option Addr} {sl_law_chain : Array (Option Value)} {oc_law_chain kV_law_chain dc_law_chain pm_law_chain cd_law_chain ct_law_chain : Value}
    {f_law_doubled : Addr} {od_law_doubled an_law_doubled : Option Addr} {sl_law_doubled : Array (Option Value)} {oc_law_doubled kV_law_doubled dc_law_doubled pm_law_doubled cd_law_doubled ct_law_doubled : Value}
    {f_law_cells_right : Addr} {od_law_cells_right an_law_cells_right : Option Addr} {sl_law_cells_right : Array (Option Value)} {oc_law_cells_right kV_law_cells_right dc_law_cells_right pm_law_cells_right cd_law_cells_right ct_law_cells_right : Value}
    {f_law_judged_right : Addr} {od_law_judged_right an_law_judged_right : Option Addr} {sl_law_judged_right : Array (Option Value)} {oc_law_judged_right kV_law_judged_right dc_law_judged_right pm_law_judged_right cd_law_judged_right ct_law_judged_right : Value}
    {flaw : Addr} {odlaw anlaw : Option Addr} {sllaw : Array (Option Value)} {oclaw kVlaw dclaw pmlaw cdlaw ctlaw : Value}
    (ais_name : PySem.W.nsIn K mainGlobals "is_name" = some (some (.ref fis_name))) (lis_name : K.lookup fis_name = some ⟨ocis_name, odis_name, .func (PySem.W.fnOf "is_name" "is_name" (defArgs K01.s_is_name) (defBody K01.s_is_name) (defScope K01.s_is_name) .none kVis_name dcis_name pmis_name anis_name cdis_name ctis_name), slis_name⟩) (cis_name : PySem.W.codeIn K cdis_name "is_name" = true) (kis_name : PySem.W.keepIn K (.ref fis_name) = true)
    (ais_term : PySem.W.nsIn K mainGlobals "is_term" = some (some (.ref fis_term))) (lis_term : K.lookup fis_term = some ⟨ocis_term, odis_term, .func (PySem.W.fnOf "is_term" "is_term" (defArgs K01.s_is_term) (defBody K01.s_is_term) (defScope K01.s_is_term) .none kVis_term dcis_term pmis_term anis_term cdis_term ctis_term), slis_term⟩) (cis_term : PySem.W.codeIn K cdis_term "is_term" = true) (kis_term : PySem.W.keepIn K (.ref fis_term) = true)
    (ais_cell : PySem.W.nsIn K mainGlobals "is_cell" = some (some (.ref fis_cell))) (lis_cell : K.lookup fis_cell = some ⟨ocis_cell, odis_cell, .func (PySem.W.fnOf "is_cell" "is_cell" (defArgs K01.s_is_cell) (defBody K01.s_is_cell) (defScope K01.s_is_cell) .none kVis_cell dcis_cell pmis_cell anis_cell cdis_cell ctis_cell), slis_cell⟩) (cis_cell : PySem.W.codeIn K cdis_cell "is_cell" = true) (kis_cell : PySem.W.keepIn K (.ref fis_cell) = true)
    (amake_term : PySem.W.nsIn K mainGlobals "make_term" = some (some (.ref fmake_term))) (lmake_term : K.lookup fmake_term = some ⟨ocmake_term, odmake_term, .func (PySem.W.fnOf "make_term" "make_term" (defArgs K01.s_make_term) (defBody K01.s_make_term) (defScope K01.s_make_term) .none kVmake_term dcmake_term pmmake_term anmake_term cdmake_term ctmake_term), slmake_term⟩) (cmake_term : PySem.W.codeIn K cdmake_term "make_term" = true) (kmake_term : PySem.W.keepIn K (.ref fmake_term) = true)
    (amake_cells : PySem.W.nsIn K mainGlobals "make_cells" = some (some (.ref fmake_cells))) (lmake_cells : K.lookup fmake_cells = some ⟨ocmake_cells, odmake_cells, .func (PySem.W.fnOf "make_cells" "make_cells" (defArgs K01.s_make_cells) (defBody K01.s_make_cells) (defScope K01.s_make_cells) .none kVmake_cells dcmake_cells pmmake_cells anmake_cells cdmake_cells ctmake_cells), slmake_cells⟩) (cmake_cells : PySem.W.codeIn K cdmake_cells "make_cells" = true) (kmake_cells : PySem.W.keepIn K (.ref fmake_cells) = true)
    (acheck_term : PySem.W.nsIn K mainGlobals "check_term" = some (some (.ref fcheck_term))) (lcheck_term : K.lookup fcheck_term = some ⟨occheck_term, odcheck_term, .func (PySem.W.fnOf "check_term" "check_term" (defArgs K01.s_check_term) (defBody K01.s_check_term) (defScope K01.s_check_term) .none kVcheck_term dccheck_term pmcheck_term ancheck_term cdcheck_term ctcheck_term), slcheck_term⟩) (ccheck_term : PySem.W.codeIn K cdcheck_term "check_term" = true) (kcheck_term : PySem.W.keepIn K (.ref fcheck_term) = true)
    (ajoint_places : PySem.W.nsIn K mainGlobals "joint_places" = some (some (.ref fjoint_places))) (ljoint_places : K.lookup fjoint_places = some ⟨ocjoint_places, odjoint_places, .func (PySem.W.fnOf "joint_places" "joint_places" (defArgs K01.s_joint_places) (defBody K01.s_joint_places) (defScope K01.s_joint_places) .none kVjoint_places dcjoint_places pmjoint_places anjoint_places cdjoint_places ctjoint_places), sljoint_places⟩) (cjoint_places : PySem.W.codeIn K cdjoint_places "joint_places" = true) (kjoint_places : PySem.W.keepIn K (.ref fjoint_places) = true)
    (ahas_form : PySem.W.nsIn K mainGlobals "has_form" = some (some (.ref fhas_form))) (lhas_form : K.lookup fhas_form = some ⟨ochas_form, odhas_form, .func (PySem.W.fnOf "has_form" "has_form" (defArgs K01.s_has_form) (defBody K01.s_has_form) (defScope K01.s_has_form) .none kVhas_form dchas_form pmhas_form anhas_form cdhas_form cthas_form), slhas_form⟩) (chas_form : PySem.W.codeIn K cdhas_form "has_form" = true) (khas_form : PySem.W.keepIn K (.ref fhas_form) = true)
    (a_law_dice : PySem.W.nsIn K mainGlobals "_law_dice" = some (some (.ref f_law_dice))) (l_law_dice : K.lookup f_law_dice = some ⟨oc_law_dice, od_law_dice, .func (PySem.W.fnOf "_law_dice" "_law_dice" (defArgs K01.s__law_dice) (defBody K01.s__law_dice) (defScope K01.s__law_dice) .none kV_law_dice dc_law_dice pm_law_dice an_law_dice cd_law_dice ct_law_dice), sl_law_dice⟩) (c_law_dice : PySem.W.codeIn K cd_law_dice "_law_dice" = true) (k_law_dice : PySem.W.keepIn K (.ref f_law_dice) = true)
    (a_law_roll : PySem.W.nsIn K mainGlobals "_law_roll" = some (some (.ref f_law_roll))) (l_law_roll : K.lookup f_law_roll = some ⟨oc_law_roll, od_law_roll, .func (PySem.W.fnOf "_law_roll" "_law_roll" (defArgs K01.s__law_roll) (defBody K01.s__law_roll) (defScope K01.s__law_roll) .none kV_law_roll dc_law_roll pm_law_roll an_law_roll cd_law_roll ct_law_roll), sl_law_roll⟩) (c_law_roll : PySem.W.codeIn K cd_law_roll "_law_roll" = true) (k_law_roll : PySem.W.keepIn K (.ref f_law_roll) = true)
    (a_law_pick : PySem.W.nsIn K mainGlobals "_law_pick" = some (some (.ref f_law_pick))) (l_law_pick : K.lookup f_law_pick = some ⟨oc_law_pick, od_law_pick, .func (PySem.W.fnOf "_law_pick" "_law_pick" (defArgs K01.s__law_pick) (defBody K01.s__law_pick) (defScope K01.s__law_pick) .none kV_law_pick dc_law_pick pm_law_pick an_law_pick cd_law_pick ct_law_pick), sl_law_pick⟩) (c_law_pick : PySem.W.codeIn K cd_law_pick "_law_pick" = true) (k_law_pick : PySem.W.keepIn K (.ref f_law_pick) = true)
    (a_law_mixed : PySem.W.nsIn K mainGlobals "_law_mixed" = some (some (.ref f_law_mixed))) (l_law_mixed : K.lookup f_law_mixed = some ⟨oc_law_mixed, od_law_mixed, .func (PySem.W.fnOf "_law_mixed" "_law_mixed" (defArgs K01.s__law_mixed) (defBody K01.s__law_mixed) (defScope K01.s__law_mixed) .none kV_law_mixed dc_law_mixed pm_law_mixed an_law_mixed cd_law_mixed ct_law_mixed), sl_law_mixed⟩) (c_law_mixed : PySem.W.codeIn K cd_law_mixed "_law_mixed" = true) (k_law_mixed : PySem.W.keepIn K (.ref f_law_mixed) = true)
    (a_law_below : PySem.W.nsIn K mainGlobals "_law_below" = some (some (.ref f_law_below))) (l_law_below : K.lookup f_law_below = some ⟨oc_law_below, od_law_below, .func (PySem.W.fnOf "_law_below" "_law_below" (defArgs K01.s__law_below) (defBody K01.s__law_below) (defScope K01.s__law_below) .none kV_law_below dc_law_below pm_law_below an_law_below cd_law_below ct_law_below), sl_law_below⟩) (c_law_below : PySem.W.codeIn K cd_law_below "_law_below" = true) (k_law_below : PySem.W.keepIn K (.ref f_law_below) = true)
    (a_law_names : PySem.W.nsIn K mainGlobals "_law_names" = some (some (.ref f_law_names))) (l_law_names : K.lookup f_law_names = some ⟨oc_law_names, od_law_names, .func (PySem.W.fnOf "_law_names" "_law_names" (defArgs K01.s__law_names) (defBody K01.s__law_names) (defScope K01.s__law_names) .none kV_law_names dc_law_names pm_law_names an_law_names cd_law_names ct_law_names), sl_law_names⟩) (c_law_names : PySem.W.codeIn K cd_law_names "_law_names" = true) (k_law_names : PySem.W.keepIn K (.ref f_law_names) = true)
    (a_law_term : PySem.W.nsIn K mainGlobals "_law_term" = some (some (.ref f_law_term))) (l_law_term : K.lookup f_law_term = some ⟨oc_law_term, od_law_term, .func (PySem.W.fnOf "_law_term" "_law_term" (defArgs K01.s__law_term) (defBody K01.s__law_term) (defScope K01.s__law_term) .none kV_law_term dc_law_term pm_law_term an_law_term cd_law_term ct_law_term), sl_law_term⟩) (c_law_term : PySem.W.codeIn K cd_law_term "_law_term" = true) (k_law_term : PySem.W.keepIn K (.ref f_law_term) = true)
    (a_law_is_name : PySem.W.nsIn K mainGlobals "_law_is_name" = some (some (.ref f_law_is_name))) (l_law_is_name : K.lookup f_law_is_name = some ⟨oc_law_is_name, od_law_is_name, .func (PySem.W.fnOf "_law_is_name" "_law_is_name" (defArgs K01.s__law_is_name) (defBody K01.s__law_is_name) (defScope K01.s__law_is_name) .none kV_law_is_name dc_law_is_name pm_law_is_name an_law_is_name cd_law_is_name ct_law_is_name), sl_law_is_name⟩) (c_law_is_name : PySem.W.codeIn K cd_law_is_name "_law_is_name" = true) (k_law_is_name : PySem.W.keepIn K (.ref f_law_is_name) = true)
    (a_law_is_formed : PySem.W.nsIn K mainGlobals "_law_is_formed" = some (some (.ref f_law_is_formed))) (l_law_is_formed : K.lookup f_law_is_formed = some ⟨oc_law_is_formed, od_law_is_formed, .func (PySem.W.fnOf "_law_is_formed" "_law_is_formed" (defArgs K01.s__law_is_formed) (defBody K01.s__law_is_formed) (defScope K01.s__law_is_formed) .none kV_law_is_formed dc_law_is_formed pm_law_is_formed an_law_is_formed cd_law_is_formed ct_law_is_formed), sl_law_is_formed⟩) (c_law_is_formed : PySem.W.codeIn K cd_law_is_formed "_law_is_formed" = true) (k_law_is_formed : PySem.W.keepIn K (.ref f_law_is_formed) = true)
    (a_law_is_term : PySem.W.nsIn K mainGlobals "_law_is_term" = some (some (.ref f_law_is_term))) (l_law_is_term : K.lookup f_law_is_term = some ⟨oc_law_is_term, od_law_is_term, .func (PySem.W.fnOf "_law_is_term" "_law_is_term" (defArgs K01.s__law_is_term) (defBody K01.s__law_is_term) (defScope K01.s__law_is_term) .none kV_law_is_term dc_law_is_term pm_law_is_term an_law_is_term cd_law_is_term ct_law_is_term), sl_law_is_term⟩) (c_law_is_term : PySem.W.codeIn K cd_law_is_term "_law_is_term" = true) (k_law_is_term : PySem.W.keepIn K (.ref f_law_is_term) = true)
    (a_law_odd : PySem.W.nsIn K mainGlobals "_law_odd" = some (some (.ref f_law_odd))) (l_law_odd : K.lookup f_law_odd = some ⟨oc_law_odd, od_law_odd, .func (PySem.W.fnOf "_law_odd" "_law_odd" (defArgs K01.s__law_odd) (defBody K01.s__law_odd) (defScope K01.s__law_odd) .none kV_law_odd dc_law_odd pm_law_odd an_law_odd cd_law_odd ct_law_odd), sl_law_odd⟩) (c_law_odd : PySem.W.codeIn K cd_law_odd "_law_odd" = true) (k_law_odd : PySem.W.keepIn K (.ref f_law_odd) = true)
    (a_law_bent : PySem.W.nsIn K mainGlobals "_law_bent" = some (some (.ref f_law_bent))) (l_law_bent : K.lookup f_law_bent = some ⟨oc_law_bent, od_law_bent, .func (PySem.W.fnOf "_law_bent" "_law_bent" (defArgs K01.s__law_bent) (defBody K01.s__law_bent) (defScope K01.s__law_bent) .none kV_law_bent dc_law_bent pm_law_bent an_law_bent cd_law_bent ct_law_bent), sl_law_bent⟩) (c_law_bent : PySem.W.codeIn K cd_law_bent "_law_bent" = true) (k_law_bent : PySem.W.keepIn K (.ref f_law_bent) = true)
    (a_law_made : PySem.W.nsIn K mainGlobals "_law_made" = some (some (.ref f_law_made))) (l_law_made : K.lookup f_law_made = some ⟨oc_law_made, od_law_made, .func (PySem.W.fnOf "_law_made" "_law_made" (defArgs K01.s__law_made) (defBody K01.s__law_made) (defScope K01.s__law_made) .none kV_law_made dc_law_made pm_law_made an_law_made cd_law_made ct_law_made), sl_law_made⟩) (c_law_made : PySem.W.codeIn K cd_law_made "_law_made" = true) (k_law_made : PySem.W.keepIn K (.ref f_law_made) = true)
    (a_law_chain : PySem.W.nsIn K mainGlobals "_law_chain" = some (some (.ref f_law_chain))) (l_law_chain : K.lookup f_law_chain = some ⟨oc_law_chain, od_law_chain, .func (PySem.W.fnOf "_law_chain" "_law_chain" (defArgs K01.s__law_chain) (defBody K01.s__law_chain) (defScope K01.s__law_chain) .none kV_law_chain dc_law_chain pm_law_chain an_law_chain cd_law_chain ct_law_chain), sl_law_chain⟩) (c_law_chain : PySem.W.codeIn K cd_law_chain "_law_chain" = true) (k_law_chain : PySem.W.keepIn K (.ref f_law_chain) = true)
    (a_law_doubled : PySem.W.nsIn K mainGlobals "_law_doubled" = some (some (.ref f_law_doubled))) (l_law_doubled : K.lookup f_law_doubled = some ⟨oc_law_doubled, od_law_doubled, .func (PySem.W.fnOf "_law_doubled" "_law_doubled" (defArgs K01.s__law_doubled) (defBody K01.s__law_doubled) (defScope K01.s__law_doubled) .none kV_law_doubled dc_law_doubled pm_law_doubled an_law_doubled cd_law_doubled ct_law_doubled), sl_law_doubled⟩) (c_law_doubled : PySem.W.codeIn K cd_law_doubled "_law_doubled" = true) (k_law_doubled : PySem.W.keepIn K (.ref f_law_doubled) = true)
    (a_law_cells_right : PySem.W.nsIn K mainGlobals "_law_cells_right" = some (some (.ref f_law_cells_right))) (l_law_cells_right : K.lookup f_law_cells_right = some ⟨oc_law_cells_right, od_law_cells_right, .func (PySem.W.fnOf "_law_cells_right" "_law_cells_right" (defArgs K01.s__law_cells_right) (defBody K01.s__law_cells_right) (defScope K01.s__law_cells_right) .none kV_law_cells_right dc_law_cells_right pm_law_cells_right an_law_cells_right cd_law_cells_right ct_law_cells_right), sl_law_cells_right⟩) (c_law_cells_right : PySem.W.codeIn K cd_law_cells_right "_law_cells_right" = true) (k_law_cells_right : PySem.W.keepIn K (.ref f_law_cells_right) = true)
    (a_law_judged_right : PySem.W.nsIn K mainGlobals "_law_judged_right" = some (some (.ref f_law_judged_right))) (l_law_judged_right : K.lookup f_law_judged_right = some ⟨oc_law_judged_right, od_law_judged_right, .func (PySem.W.fnOf "_law_judged_right" "_law_judged_right" (defArgs K01.s__law_judged_right) (defBody K01.s__law_judged_right) (defScope K01.s__law_judged_right) .none kV_law_judged_right dc_law_judged_right pm_law_judged_right an_law_judged_right cd_law_judged_right ct_law_judged_right), sl_law_judged_right⟩) (c_law_judged_right : PySem.W.codeIn K cd_law_judged_right "_law_judged_right" = true) (k_law_judged_right : PySem.W.keepIn K (.ref f_law_judged_right) = true)
    (alaw : PySem.W.nsIn K mainGlobals "law" = some (some (.ref flaw))) (llaw : K.lookup flaw = some ⟨oclaw, odlaw, .func (PySem.W.fnOf "law" "law" (defArgs K01.s_law) (defBody K01.s_law) (defScope K01.s_law) .none kVlaw dclaw pmlaw anlaw cdlaw ctlaw), sllaw⟩) (claw : PySem.W.codeIn K cdlaw "law" = true) (klaw : PySem.W.keepIn K (.ref flaw) = true)
    (zabs : PySem.W.nsIn K mainGlobals "abs" = some none)
    (zint : PySem.W.nsIn K mainGlobals "int" = some none)
    (zisinstance : PySem.W.nsIn K mainGlobals "isinstance" = some none)
    (zlen : PySem.W.nsIn K mainGlobals "len" = some none)
    (zlist : PySem.W.nsIn K mainGlobals "list" = some none)
    (zmax : PySem.W.nsIn K mainGlobals "max" = some none)
    (zmin : PySem.W.nsIn K mainGlobals "min" = some none)
    (zrange : PySem.W.nsIn K mainGlobals "range" = some none)
    (zrepr : PySem.W.nsIn K mainGlobals "repr" = some none)
    (zset : PySem.W.nsIn K mainGlobals "set" = some none)
    (zsorted : PySem.W.nsIn K mainGlobals "sorted" = some none)
    (zstr : PySem.W.nsIn K mainGlobals "str" = some none)
    (ztuple : PySem.W.nsIn K mainGlobals "tuple" = some none)
    {tMAX_PLACES : Tok} (zMAX_PLACES : PySem.W.nsIn K mainGlobals "MAX_PLACES" = some (some (.int 3 tMAX_PLACES)))
    {tLONGEST_NAME : Tok} (zLONGEST_NAME : PySem.W.nsIn K mainGlobals "LONGEST_NAME" = some (some (.int 8 tLONGEST_NAME)))
    : ∃ T : K01.Tx K mg, T.alaw = flaw ∧ T.dlaw = PySem.W.fnOf "law" "law" (defArgs K01.s_law) (defBody K01.s_law) (defScope K01.s_law) .none kVlaw dclaw pmlaw anlaw cdlaw ctlaw := by
  have Fis_name := fun_mk (st := K01.s_is_name) lis_name cis_name kis_name
  have Bis_name := Fis_name.binds (ps := ["value"]) fun _ _ _ _ _ _ us hl => match us, hl with | [_], _ => rfl
  have Fis_term := fun_mk (st := K01.s_is_term) lis_term cis_term kis_term
  have Bis_term := Fis_term.binds (ps := ["value"]) fun _ _ _ _ _ _ us hl => match us, hl with | [_], _ => rfl
  have Fis_cell := fun_mk (st := K01.s_is_cell) lis_cell cis_cell kis_cell
  have Bis_cell := Fis_cell.binds (ps := ["value"]) fun _ _ _ _ _ _ us hl => match us, hl with | [_], _ => rfl
  have Fmake_term := fun_mk (st := K01.s_make_term) lmake_term cmake_term kmake_term
  have Fmake_cells := fun_mk (st := K01.s_make_cells) lmake_cells cmake_cells kmake_cells
  have Fcheck_term := fun_mk (st := K01.s_check_term) lcheck_term ccheck_term kcheck_term
  have Bcheck_term := Fcheck_term.binds (ps := ["value"]) fun _ _ _ _ _ _ us hl => match us, hl with | [_], _ => rfl
  have Fjoint_places := fun_mk (st := K01.s_joint_places) ljoint_places cjoint_places kjoint_places
  have Bjoint_places := Fjoint_places.binds (ps := ["values"]) fun _ _ _ _ _ _ us hl => match us, hl with | [_], _ => rfl
  have Fhas_form := fun_mk (st := K01.s_has_form) lhas_form chas_form khas_form
  have Bhas_form := Fhas_form.binds (ps := ["value"]) fun _ _ _ _ _ _ us hl => match us, hl with | [_], _ => rfl
  have F_law_dice := fun_mk (st := K01.s__law_dice) l_law_dice c_law_dice k_law_dice
  have B_law_dice := F_law_dice.binds (ps := ["script", "spot"]) fun _ _ _ _ _ _ us hl => match us, hl with | [_, _], _ => rfl
  have F_law_roll := fun_mk (st := K01.s__law_roll) l_law_roll c_law_roll k_law_roll
  have B_law_roll := F_law_roll.binds (ps := ["dice", "many"]) fun _ _ _ _ _ _ us hl => match us, hl with | [_, _], _ => rfl
  have F_law_pick := fun_mk (st := K01.s__law_pick) l_law_pick c_law_pick k_law_pick
  have B_law_pick := F_law_pick.binds (ps := ["dice", "items"]) fun _ _ _ _ _ _ us hl => match us, hl with | [_, _], _ => rfl
  have F_law_mixed := fun_mk (st := K01.s__law_mixed) l_law_mixed c_law_mixed k_law_mixed
  have B_law_mixed := F_law_mixed.binds (ps := ["dice", "items"]) fun _ _ _ _ _ _ us hl => match us, hl with | [_, _], _ => rfl
  have F_law_below := fun_mk (st := K01.s__law_below) l_law_below c_law_below k_law_below
  have B_law_below := F_law_below.binds (ps := ["term"]) fun _ _ _ _ _ _ us hl => match us, hl with | [_], _ => rfl
  have F_law_names := fun_mk (st := K01.s__law_names) l_law_names c_law_names k_law_names
  have B_law_names := F_law_names.binds (ps := ["dice", "few"]) fun _ _ _ _ _ _ us hl => match us, hl with | [_, _], _ => rfl
  have F_law_term := fun_mk (st := K01.s__law_term) l_law_term c_law_term k_law_term
  have B_law_term := F_law_term.binds (ps := ["dice", "names", "deep"]) fun _ _ _ _ _ _ us hl => match us, hl with | [_, _, _], _ => rfl
  have F_law_is_name := fun_mk (st := K01.s__law_is_name) l_law_is_name c_law_is_name k_law_is_name
  have B_law_is_name := F_law_is_name.binds (ps := ["thing"]) fun _ _ _ _ _ _ us hl => match us, hl with | [_], _ => rfl
  have F_law_is_formed := fun_mk (st := K01.s__law_is_formed) l_law_is_formed c_law_is_formed k_law_is_formed
  have B_law_is_formed := F_law_is_formed.binds (ps := ["thing"]) fun _ _ _ _ _ _ us hl => match us, hl with | [_], _ => rfl
  have F_law_is_term := fun_mk (st := K01.s__law_is_term) l_law_is_term c_law_is_term k_law_is_term
  have B_law_is_term := F_law_is_term.binds (ps := ["thing"]) fun _ _ _ _ _ _ us hl => match us, hl with | [_], _ => rfl
  have F_law_odd := fun_mk (st := K01.s__law_odd) l_law_odd c_law_odd k_law_odd
  have B_law_odd := F_law_odd.binds (ps := ["dice"]) fun _ _ _ _ _ _ us hl => match us, hl with | [_], _ => rfl
  have F_law_bent := fun_mk (st := K01.s__law_bent) l_law_bent c_law_bent k_law_bent
  have B_law_bent := F_law_bent.binds (ps := ["dice", "thing", "deep"]) fun _ _ _ _ _ _ us hl => match us, hl with | [_, _, _], _ => rfl
  have F_law_made := fun_mk (st := K01.s__law_made) l_law_made c_law_made k_law_made
  have B_law_made := F_law_made.binds (ps := ["name", "parts"]) fun _ _ _ _ _ _ us hl => match us, hl with | [_, _], _ => rfl
  have F_law_chain := fun_mk (st := K01.s__law_chain) l_law_chain c_law_chain k_law_chain
  have B_law_chain := F_law_chain.binds (ps := ["total"]) fun _ _ _ _ _ _ us hl => match us, hl with | [_], _ => rfl
  have F_law_doubled := fun_mk (st := K01.s__law_doubled) l_law_doubled c_law_doubled k_law_doubled
  have B_law_doubled := F_law_doubled.binds (ps := ["total"]) fun _ _ _ _ _ _ us hl => match us, hl with | [_], _ => rfl
  have F_law_cells_right := fun_mk (st := K01.s__law_cells_right) l_law_cells_right c_law_cells_right k_law_cells_right
  have B_law_cells_right := F_law_cells_right.binds (ps := ["dice"]) fun _ _ _ _ _ _ us hl => match us, hl with | [_], _ => rfl
  have F_law_judged_right := fun_mk (st := K01.s__law_judged_right) l_law_judged_right c_law_judged_right k_law_judged_right
  have B_law_judged_right := F_law_judged_right.binds (ps := ["thing"]) fun _ _ _ _ _ _ us hl => match us, hl with | [_], _ => rfl
  have Flaw := fun_mk (st := K01.s_law) llaw claw klaw
  have Blaw := Flaw.binds (ps := ["script"]) fun _ _ _ _ _ _ us hl => match us, hl with | [_], _ => rfl
  exact ⟨{ b_abs := PySem.W.mg_none_of X G zabs, b_int := PySem.W.mg_none_of X G zint, b_isinstance := PySem.W.mg_none_of X G zisinstance, b_len := PySem.W.mg_none_of X G zlen, b_list := PySem.W.mg_none_of X G zlist, b_max := PySem.W.mg_none_of X G zmax, b_min := PySem.W.mg_none_of X G zmin, b_range := PySem.W.mg_none_of X G zrange, b_repr := PySem.W.mg_none_of X G zrepr, b_set := PySem.W.mg_none_of X G zset, b_sorted := PySem.W.mg_none_of X G zsorted, b_str := PySem.W.mg_none_of X G zstr, b_tuple := PySem.W.mg_none_of X G ztuple, c_MAX_PLACES := ⟨_, PySem.W.mg_of X G zMAX_PLACES⟩, c_LONGEST_NAME := ⟨_, PySem.W.mg_of X G zLONGEST_NAME⟩, ais_name := fis_name, dis_name := _, fis_name := Fis_name, gis_name := PySem.W.mg_of X G ais_name, nis_name := Bis_name, ais_term := fis_term, dis_term := _, fis_term := Fis_term, gis_term := PySem.W.mg_of X G ais_term, nis_term := Bis_term, ais_cell := fis_cell, dis_cell := _, fis_cell := Fis_cell, gis_cell := PySem.W.mg_of X G ais_cell, nis_cell := Bis_cell, amake_term := fmake_term, dmake_term := _, fmake_term := Fmake_term, gmake_term := PySem.W.mg_of X G amake_term, amake_cells := fmake_cells, dmake_cells := _, fmake_cells := Fmake_cells, gmake_cells := PySem.W.mg_of X G amake_cells, acheck_term := fcheck_term, dcheck_term := _, fcheck_term := Fcheck_term, gcheck_term := PySem.W.mg_of X G acheck_term, ncheck_term := Bcheck_term, ajoint_places := fjoint_places, djoint_places := _, fjoint_places := Fjoint_places, gjoint_places := PySem.W.mg_of X G ajoint_places, njoint_places := Bjoint_places, ahas_form := fhas_form, dhas_form := _, fhas_form := Fhas_form, ghas_form := PySem.W.mg_of X G ahas_form, nhas_form := Bhas_form, a_law_dice := f_law_dice, d_law_dice := _, f_law_dice := F_law_dice, g_law_dice := PySem.W.mg_of X G a_law_dice, n_law_dice := B_law_dice, a_law_roll := f_law_roll, d_law_roll := _, f_law_roll := F_law_roll, g_law_roll := PySem.W.mg_of X G a_law_roll, n_law_roll := B_law_roll, a_law_pick := f_law_pick, d_law_pick := _, f_law_pick := F_law_pick, g_law_pick := PySem.W.mg_of X G a_law_pick, n_law_pick := B_law_pick, a_law_mixed := f_law_mixed, d_law_mixed := _, f_law_mixed := F_law_mixed, g_law_mixed := PySem.W.mg_of X G a_law_mixed, n_law_mixed := B_law_mixed, a_law_below := f_law_below, d_law_below := _, f_law_below := F_law_below, g_law_below := PySem.W.mg_of X G a_law_below, n_law_below := B_law_below, a_law_names := f_law_names, d_law_names := _, f_law_names := F_law_names, g_law_names := PySem.W.mg_of X G a_law_names, n_law_names := B_law_names, a_law_term := f_law_term, d_law_term := _, f_law_term := F_law_term, g_law_term := PySem.W.mg_of X G a_law_term, n_law_term := B_law_term, a_law_is_name := f_law_is_name, d_law_is_name := _, f_law_is_name := F_law_is_name, g_law_is_name := PySem.W.mg_of X G a_law_is_name, n_law_is_name := B_law_is_name, a_law_is_formed := f_law_is_formed, d_law_is_formed := _, f_law_is_formed := F_law_is_formed, g_law_is_formed := PySem.W.mg_of X G a_law_is_formed, n_law_is_formed := B_law_is_formed, a_law_is_term := f_law_is_term, d_law_is_term := _, f_law_is_term := F_law_is_term, g_law_is_term := PySem.W.mg_of X G a_law_is_term, n_law_is_term := B_law_is_term, a_law_odd := f_law_odd, d_law_odd := _, f_law_odd := F_law_odd, g_law_odd := PySem.W.mg_of X G a_law_odd, n_law_odd := B_law_odd, a_law_bent := f_law_bent, d_law_bent := _, f_law_bent := F_law_bent, g_law_bent := PySem.W.mg_of X G a_law_bent, n_law_bent := B_law_bent, a_law_made := f_law_made, d_law_made := _, f_law_made := F_law_made, g_law_made := PySem.W.mg_of X G a_law_made, n_law_made := B_law_made, a_law_chain := f_law_chain, d_law_chain := _, f_law_chain := F_law_chain, g_law_chain := PySem.W.mg_of X G a_law_chain, n_law_chain := B_law_chain, a_law_doubled := f_law_doubled, d_law_doubled := _, f_law_doubled := F_law_doubled, g_law_doubled := PySem.W.mg_of X G a_law_doubled, n_law_doubled := B_law_doubled, a_law_cells_right := f_law_cells_right, d_law_cells_right := _, f_law_cells_right := F_law_cells_right, g_law_cells_right := PySem.W.mg_of X G a_law_cells_right, n_law_cells_right := B_law_cells_right, a_law_judged_right := f_law_judged_right, d_law_judged_right := _, f_law_judged_right := F_law_judged_right, g_law_judged_right := PySem.W.mg_of X G a_law_judged_right, n_law_judged_right := B_law_judged_right, alaw := flaw, dlaw := _, flaw := Flaw, glaw := PySem.W.mg_of X G alaw, nlaw := Blaw }, rfl, rfl⟩


namespace K01
theorem ends {P : Program} {w : World} {K : PySem.W.Frag} {mg : Str → Option Value} {fa flaw : Addr} {kV dc pm cd ct : Value} {an : Option Addr}
    (hT : ∃ T : Tx K mg, T.alaw = flaw ∧ T.dlaw = PySem.W.fnOf "law" "law" (defArgs s_law) (defBody s_law) (defScope s_law) .none kV dc pm an cd ct) (hmg : mg "law" = some (.ref fa)) :
    ∃ fd : FuncData, (∀ (s : Shared) (u : Value), BindsTo s fd ⟨[u], []⟩ [("script", u)]) ∧ ∀ base : Heap, K.In base → base.Ns mainGlobals mg → FnG P w K mg base 20 fa fd ["script"] (spLaw K) := by
  obtain ⟨T, e1, e2⟩ := hT
  have z := T.glaw
  rw [hmg] at z
  cases z
  exact ⟨T.dlaw, fun s u => by rw [e2]; exact .of_eq rfl, fun base _ _ => ok_law T⟩
theorem walk {l : PySem.W.OpenLaw} {q : Program} {loose : List Str} {XP : (Str → Option Value) → Heap → Prop} {YP : World → Heap → Prop} {d : DefRec} {K : Params → PySem.W.Frag} (hn : l.most = some 63) (hdf : d.params.defaults = [])
    (hY : ∀ (w : World) (h : Heap), YP w h → (K w.params).In h)
    (F : ∀ (w : World) (mg : Str → Option Value) (fa : Addr) (h : Heap), (K w.params).In h → h.Ns mainGlobals mg → mg d.name = some (.ref fa) →
      ∃ fd : FuncData, (∀ (s : Shared) (u : Value), BindsTo s fd ⟨[u], []⟩ [("script", u)]) ∧ ∀ base : Heap, (K w.params).In base → base.Ns mainGlobals mg → FnG l.prog w (K w.params) mg base 20 fa fd ["script"] (spLaw (K w.params))) :
    PySem.W.WalkO q loose XP YP l.row.toRowW d [] (fun f vs => PySem.call f vs) :=
  walk_ofG (n := 63) (k := 20) (x := "script") (sp := fun w => spLaw (K w.params)) hn (by decide) hdf ⟨rfl, by decide, by decide⟩ hY F fun _ _ a ns _ _ hS => ⟨a, ns, rfl, hS, fun _ => rfl⟩
end K01
open PySem PySem.W PyProof.Rows
set_option maxRecDepth 100000 in
set_option maxHeartbeats 0 in
theorem PySem.Challenge.cw_shownpart_k01_terms_recognized_holds : PySem.Challenge.rw_shownpart_k01_terms_recognized.Holds := by
  w_on; o_law; k_head; (case hw => w_witness2)
  k_fill
  refine K01.walk (l := PySem.Challenge.rw_shownpart_k01_terms_recognized) rfl rfl (fun w h Y => PySem.W.kIn_of Y) ?F
  case F =>
    intro w mg fa h KX G hmg
    refine' K01.ends (K01.tx_mk KX G ?ais_name ?lis_name ?cis_name ?kis_name ?ais_term ?lis_term ?cis_term ?kis_term ?ais_cell ?lis_cell ?cis_cell ?kis_cell ?amake_term ?lmake_term ?cmake_term ?kmake_term ?amake_cells ?lmake_cells ?cmake_cells ?kmake_cells ?acheck_term ?lcheck_term ?ccheck_term ?kcheck_term ?ajoint_places ?ljoint_places ?cjoint_places ?kjoint_places ?ahas_form ?lhas_form ?chas_form ?khas_form ?a_law_dice ?l_law_dice ?c_law_dice ?k_law_dice ?a_law_roll ?l_law_roll ?c_law_roll ?k_law_roll ?a_law_pick ?l_law_pick ?c_law_pick ?k_law_pick ?a_law_mixed ?l_law_mixed ?c_law_mixed ?k_law_mixed ?a_law_below ?l_law_below ?c_law_below ?k_law_below ?a_law_names ?l_law_names ?c_law_names ?k_law_names ?a_law_term ?l_law_term ?c_law_term ?k_law_term ?a_law_is_name ?l_law_is_name ?c_law_is_name ?k_law_is_name ?a_law_is_formed ?l_law_is_formed ?c_law_is_formed ?k_law_is_formed ?a_law_is_term ?l_law_is_term ?c_law_is_term ?k_law_is_term ?a_law_odd ?l_law_odd ?c_law_odd ?k_law_odd ?a_law_bent ?l_law_bent ?c_law_bent ?k_law_bent ?a_law_made ?l_law_made ?c_law_made ?k_law_made ?a_law_chain ?l_law_chain ?c_law_chain ?k_law_chain ?a_law_doubled ?l_law_doubled ?c_law_doubled ?k_law_doubled ?a_law_cells_right ?l_law_cells_right ?c_law_cells_right ?k_law_cells_right ?a_law_judged_right ?l_law_judged_right ?c_law_judged_right ?k_law_judged_right ?alaw ?llaw ?claw ?klaw ?zabs ?zint ?zisinstance ?zlen ?zlist ?zmax ?zmin ?zrange ?zrepr ?zset ?zsorted ?zstr ?ztuple ?zMAX_PLACES ?zLONGEST_NAME) hmg
    (case ais_name => k_is); (case lis_name => k_is); (case cis_name => k_is); (case kis_name => k_is); (case ais_term => k_is); (case lis_term => k_is); (case cis_term => k_is); (case kis_term => k_is)
    (case ais_cell => k_is); (case lis_cell => k_is); (case cis_cell => k_is); (case kis_cell => k_is); (case amake_term => k_is); (case lmake_term => k_is); (case cmake_term => k_is); (case kmake_term => k_is)
    (case amake_cells => k_is); (case lmake_cells => k_is); (case cmake_cells => k_is); (case kmake_cells => k_is); (case acheck_term => k_is); (case lcheck_term => k_is); (case ccheck_term => k_is); (case kcheck_term => k_is)
    (case ajoint_places => k_is); (case ljoint_places => k_is); (case cjoint_places => k_is); (case kjoint_places => k_is); (case ahas_form => k_is); (case lhas_form => k_is); (case chas_form => k_is); (case khas_form => k_is)
    (case a_law_dice => k_is); (case l_law_dice => k_is); (case c_law_dice => k_is); (case k_law_dice => k_is); (case a_law_roll => k_is); (case l_law_roll => k_is); (case c_law_roll => k_is); (case k_law_roll => k_is)
    (case a_law_pick => k_is); (case l_law_pick => k_is); (case c_law_pick => k_is); (case k_law_pick => k_is); (case a_law_mixed => k_is); (case l_law_mixed => k_is); (case c_law_mixed => k_is); (case k_law_mixed => k_is)
    (case a_law_below => k_is); (case l_law_below => k_is); (case c_law_below => k_is); (case k_law_below => k_is); (case a_law_names => k_is); (case l_law_names => k_is); (case c_law_names => k_is); (case k_law_names => k_is)
    (case a_law_term => k_is); (case l_law_term => k_is); (case c_law_term => k_is); (case k_law_term => k_is); (case a_law_is_name => k_is); (case l_law_is_name => k_is); (case c_law_is_name => k_is); (case k_law_is_name => k_is)
    (case a_law_is_formed => k_is); (case l_law_is_formed => k_is); (case c_law_is_formed => k_is); (case k_law_is_formed => k_is); (case a_law_is_term => k_is); (case l_law_is_term => k_is); (case c_law_is_term => k_is); (case k_law_is_term => k_is)
    (case a_law_odd => k_is); (case l_law_odd => k_is); (case c_law_odd => k_is); (case k_law_odd => k_is); (case a_law_bent => k_is); (case l_law_bent => k_is); (case c_law_bent => k_is); (case k_law_bent => k_is)
    (case a_law_made => k_is); (case l_law_made => k_is); (case c_law_made => k_is); (case k_law_made => k_is); (case a_law_chain => k_is); (case l_law_chain => k_is); (case c_law_chain => k_is); (case k_law_chain => k_is)
    (case a_law_doubled => k_is); (case l_law_doubled => k_is); (case c_law_doubled => k_is); (case k_law_doubled => k_is); (case a_law_cells_right => k_is); (case l_law_cells_right => k_is); (case c_law_cells_right => k_is); (case k_law_cells_right => k_is)
    (case a_law_judged_right => k_is); (case l_law_judged_right => k_is); (case c_law_judged_right => k_is); (case k_law_judged_right => k_is); (case alaw => k_is); (case llaw => k_is); (case claw => k_is); (case klaw => k_is)
    (case zabs => k_is); (case zint => k_is); (case zisinstance => k_is); (case zlen => k_is); (case zlist => k_is); (case zmax => k_is); (case zmin => k_is); (case zrange => k_is)
    (case zrepr => k_is); (case zset => k_is); (case zsorted => k_is); (case zstr => k_is); (case ztuple => k_is); (case zMAX_PLACES => k_is); (case zLONGEST_NAME => k_is)
