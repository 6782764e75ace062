import PyProof.Rows.All
import Wide.All
import OpenK.AllK
import Wide.FinOn
import HandS.ForMost
import HandS.TupSets
import HandS.Strs
import KE.SortData
import HandS.IsInst
import HandS.SetKeys
import HandS.StrMore
import HandS.Star
import HandS.TupAny
import HandS.Wide
import HandS.Style
import HandS.Codes
import HandS.Text
import HandS.ReplaceLit
import HandS.ReplaceDef
import HandS.WordsExc
import HandS.TryOnly
import PyProof.StrBlock2
import PySem.Challenge.RW_shownpart_k04_texts_of_terms
set_option Elab.async false
set_option linter.all false
set_option maxRecDepth 100000
set_option maxHeartbeats 4000000
/-! Sets of tuples whose items are ints or texts: made from a list, and counted. -/
namespace Kx
open PySem PySem.Spec PyProof.Rows L2

/-- the tuple at b holds the keys k -/
def TupK (P : Program) (w : World) (h : Heap) (k : List Key) (b : Addr) : Prop := IsTupleKey (mixKind P w) h k b
def hsK (P : Program) (w : World) (k : List Key) : Int := tupleKeyHash (mixKind P w) k
abbrev Row := Addr × List Key
def rowsK (P : Program) (w : World) (L : List Row) : List (Int × Value) := L.map fun p => (hsK P w p.2, Value.ref p.1)
def keysK (L : List Row) : List (List Key) := L.map Prod.snd

/-- the c-th step of the way of h -/
def stp (t : SetTable) (h : Int) (c : Nat) : SetTable.Probe := nth t.mask (runAt t.mask (SetTable.bits h % (t.mask + 1)) (SetTable.bits h)) c
theorem stp_j (t : SetTable) (h : Int) (c : Nat) : (stp t h c).j = way t.mask h c := rfl
theorem stp_add (t : SetTable) (h : Int) (c q : Nat) : nth t.mask (stp t h c) q = stp t h (c + q) := (nth_add t.mask c _ q).symm
theorem nth_nodummy (m : Nat) : ∀ (n : Nat) (p : SetTable.Probe), p.dummy = none → (nth m p n).dummy = none := by
  intro n
  induction n with
  | zero => exact fun p h => h
  | succ n ih =>
    intro p h
    apply ih (adv m p)
    show (adv m p).dummy = none
    simp only [adv]
    split <;> exact h
theorem stp_nodummy (t : SetTable) (h : Int) (c : Nat) : (stp t h c).dummy = none := nth_nodummy _ c _ rfl

section
variable {P : Program} {w : World} {A : Around} {E : Value → Shared → Prop} {s : Shared}

theorem items_plain {k : List Key} {vs : List Value} (h : ItemsAre (mixKind P w) k vs) :
    ∀ v, v ∈ vs → (∃ i t, v = Value.int i t) ∨ ∃ x t, v = Value.str x t := by
  induction h with
  | nil => exact fun v hv => nomatch hv
  | cons h1 _ ih =>
    intro v hv
    rcases List.mem_cons.mp hv with e | hv
    · subst e
      rcases keyIs_shape h1 with ⟨i, t, _, e⟩ | ⟨x, t, _, e⟩
      · exact .inl ⟨i, t, e⟩
      · exact .inr ⟨x, t, e⟩
    · exact ih v hv
/-- a tuple of ints and texts is of no class statement -/
theorem ofClass_tupK {k : List Key} {b : Addr} {Q : Bool → Shared → Prop} (hk : TupK P w s.heap k b) (q : Q false s) :
    wpAny (model P w) A (ofAClassStatement 8 (.ref b)) Q E s := by
  have ty := IsTupleKey.typeIs hk
  obtain ⟨o, its, n, h1, _, h2, h3⟩ := hk
  have pl := items_plain h3
  unfold ofAClassStatement
  apply wpAny_bind (wpAny_typeOf ty _)
  dsimp only
  have tt : (("tuple" : String) == "tuple") = true := by decide
  rw [if_pos tt]
  try apply wpAny_bind (wpAny_pure _)
  simp only [Bool.not_true, Bool.false_eq_true, if_false]
  show wpAny _ _ (seqItems? (.ref b) >>= _) _ _ s
  apply wpAny_bind (wpAny_seqItems h1 h2 _)
  dsimp only
  apply wpAny_bind
  show wpAny _ _ (forIn its _ _) _ _ s
  rw [← Array.forIn_toList]
  apply wpAny_forIn_list _ (fun rest r s' => r.1 = none ∧ s' = s ∧ ∀ v, v ∈ rest → (∃ i t, v = Value.int i t) ∨ ∃ x t, v = Value.str x t) _ _ _ _ _ ⟨rfl, rfl, pl⟩
  · rintro v rest r s' ⟨hr, rfl, hall⟩
    have e0 : ofAClassStatement 7 v = pure false := by
      rcases hall v List.mem_cons_self with ⟨i, t, rfl⟩ | ⟨x, t, rfl⟩ <;> rfl
    rw [e0]
    apply wpAny_bind (wpAny_pure _)
    simp only [Bool.false_eq_true, if_false]
    exact wpAny_pure ⟨rfl, rfl, fun u hu => hall u (List.mem_cons_of_mem _ hu)⟩
  · rintro ⟨r1, r2⟩ s' ⟨hr, rfl, _⟩
    cases hr
    exact wpAny_pure q
/-- whatever is said of a tuple's hash: a Bool, and the state stays -/
theorem byValue_tupK {k : List Key} {b : Addr} {Q : Bool → Shared → Prop} (hk : TupK P w s.heap k b) (q : ∀ c, Q c s) :
    wpAny (model P w) A (hashByValue 8 (.ref b)) Q E s := by
  have ty := IsTupleKey.typeIs hk
  obtain ⟨o, its, n, h1, _, h2, h3⟩ := hk
  have pl := items_plain h3
  unfold hashByValue
  apply wpAny_bind (wpAny_specialOf ty F.slot_tuple_hash.lookup _)
  show wpAny _ _ (seqItems? (.ref b) >>= _) _ _ s
  apply wpAny_bind (wpAny_seqItems h1 h2 _)
  apply wpAny_bind
  show wpAny _ _ (forIn its _ _) _ _ s
  rw [← Array.forIn_toList]
  apply wpAny_forIn_list _ (fun rest r s' => s' = s ∧ ∀ v, v ∈ rest → (∃ i t, v = Value.int i t) ∨ ∃ x t, v = Value.str x t) _ _ _ _ _ ⟨rfl, pl⟩
  · rintro v rest r s' ⟨rfl, hall⟩
    have tl : ∀ v, v ∈ rest → (∃ i t, v = Value.int i t) ∨ ∃ x t, v = Value.str x t := fun u hu => hall u (List.mem_cons_of_mem _ hu)
    have e0 : ∃ c, hashByValue 7 v = pure c := by
      rcases hall v List.mem_cons_self with ⟨i, t, rfl⟩ | ⟨x, t, rfl⟩
      · exact ⟨true, rfl⟩
      · exact ⟨false, rfl⟩
    obtain ⟨c, e0⟩ := e0
    rw [e0]
    apply wpAny_bind (wpAny_pure _)
    cases c
    · simp only [Bool.not_false, if_true]
      exact wpAny_pure (wpAny_pure (q _))
    · simp only [Bool.not_true, Bool.false_eq_true, if_false]
      exact wpAny_pure ⟨rfl, tl⟩
  · rintro ⟨r1, r2⟩ s' ⟨rfl, _⟩
    cases r1
    · exact wpAny_pure (q _)
    · exact wpAny_pure (q _)
/-- a search among such tuples shows nothing -/
theorem unseen_tupK {k : List Key} {b : Addr} {Q : Bool → Shared → Prop} (hk : TupK P w s.heap k b) {ys : List Value}
    (hy : ∀ y, y ∈ ys → ∃ k' c, y = Value.ref c ∧ TupK P w s.heap k' c) (q : Q false s) : wpAny (model P w) A (searchCouldBeSeen (.ref b) ys) Q E s := by
  unfold searchCouldBeSeen
  apply wpAny_bind
  apply wpAny_forIn_list _ (fun rest r s' => r.1 = none ∧ s' = s ∧ ∀ y, y ∈ rest → ∃ k' c, y = Value.ref c ∧ TupK P w s.heap k' c) _ _ _ _ _ ⟨rfl, rfl, hy⟩
  · rintro v rest r s' ⟨hr, rfl, hall⟩
    obtain ⟨k', c, rfl, hc⟩ := hall v List.mem_cons_self
    have tl : ∀ y, y ∈ rest → ∃ k' c, y = Value.ref c ∧ TupK P w s'.heap k' c := fun u hu => hall u (List.mem_cons_of_mem _ hu)
    have fin : wpAny (model P w) A (pure (ForInStep.yield r)) (fun x s1 => match x with
      | .yield b' => b'.1 = none ∧ s1 = s' ∧ ∀ y, y ∈ rest → ∃ k' c, y = Value.ref c ∧ TupK P w s'.heap k' c
      | .done _ => False) E s' := wpAny_pure ⟨hr, rfl, tl⟩
    dsimp only
    by_cases hv : (b == c || (carriedByValue (.ref b) && carriedByValue (.ref c))) = true
    · exact wp_if_pos hv (wpAny_pure ⟨rfl, rfl, tl⟩)
    · apply wp_if_neg hv
      apply wpAny_bind (wpAny_eqIsQuiet_tuple hk _)
      simp only [Bool.not_true, Bool.false_eq_true, if_false]
      apply wpAny_bind (wpAny_eqIsQuiet_tuple hc _)
      simp only [Bool.not_true, Bool.false_eq_true, if_false]
      apply wpAny_bind (ofClass_tupK hk _)
      simp only [Bool.false_eq_true, if_false]
      apply wpAny_bind (ofClass_tupK hc _)
      simp only [Bool.false_eq_true, if_false]
      exact wpAny_pure ⟨rfl, rfl, tl⟩
  · rintro ⟨r1, r2⟩ s' ⟨hr, rfl, _⟩
    cases hr
    exact wpAny_pure q

/-- the set at a: its members, its table -/
structure SetK (P : Program) (w : World) (h : Heap) (a : Addr) (L : List Row) (es : Array (Int × Value)) (ep : Nat) (t : SetTable) : Prop where
  obj : ∃ o, h.get? a = some o ∧ o.ExactSet ∧ o.data = .set es ep t
  rws : es.toList = rowsK P w L
  tbl : TabOk t (L.map fun p => hsK P w p.2)
  uni : (keysK L).Nodup
  mem : ∀ p, p ∈ L → TupK P w h p.2 p.1
  rom : L.length * 5 < t.mask * 3
  low : L.length < 64
variable {a : Addr} {L : List Row} {es : Array (Int × Value)} {ep : Nat} {t : SetTable}
theorem rowsK_len {es : Array (Int × Value)} {L : List Row} (h : es.toList = rowsK P w L) : es.size = L.length := by
  have e : es.toList.length = (rowsK P w L).length := by rw [h]
  simpa [rowsK] using e
theorem rowsK_get {es : Array (Int × Value)} {L : List Row} (h : es.toList = rowsK P w L) {i : Nat} {p : Row} (hp : L[i]? = some p) : es[i]? = some (hsK P w p.2, Value.ref p.1) := by
  have e : es.toList[i]? = some (hsK P w p.2, Value.ref p.1) := by
    rw [h]
    simp [rowsK, hp]
  rwa [Array.getElem?_toList] at e
theorem fits_of {t : SetTable} {n m : Nat} (h1 : t.dummies = #[]) (h2 : t.place.size = n) (h3 : n ≤ t.mask) : t.fits n = true := by
  simp only [SetTable.fits, SetTable.fill, h1, h2]
  simp
  exact h3
theorem SetK.fit (R : SetK P w s.heap a L es ep t) : t.fits es.size = true := by
  have z := rowsK_len R.rws
  have y := R.tbl.sz
  have x := R.rom
  rw [List.length_map] at y
  exact fits_of (m := 0) R.tbl.dm (by omega) (by omega)
theorem SetK.stays (R : SetK P w s.heap a L es ep t) : ¬ t.gaveWay = true := by
  simp only [SetTable.gaveWay, mask_odd R.tbl.mok]
  decide

/-- a search, from the c-th step of the way on; K: the first empty slot -/
theorem searchK (R : SetK P w s.heap a L es ep t) {x : Addr} {k : List Key} (hx : TupK P w s.heap k x) (hu : A.units < cLine) {K : Nat} (hf : K < 10 * SetTable.turns t.mask)
    (hK : way t.mask (hsK P w k) K ∉ t.place.toList) (hb : ∀ c, c < K → way t.mask (hsK P w k) c ∈ t.place.toList) {Q : SetFound → Shared → Prop}
    (yes : k ∈ keysK L → Q (.there none) s) (no : k ∉ keysK L → Q (.free (way t.mask (hsK P w k) K) false) s) :
    ∀ (f c : Nat) (st : Option SetTable.Probe), st.getD (t.probeStart (hsK P w k)) = stp t (hsK P w k) c → c ≤ K → K - c < f →
      (∀ (i : Nat) p, L[i]? = some p → p.2 = k → ∃ d, c ≤ d ∧ d < K ∧ t.place.toList[i]? = some (way t.mask (hsK P w k) d)) →
      wpAny (model P w) A (setSearchFrom a (.ref x) (hsK P w k) true f st) Q E s := by
  intro f
  induction f with
  | zero => exact fun c st _ _ h => absurd h (Nat.not_lt_zero _)
  | succ f ih =>
  intro c st hst hc hlt hre
  obtain ⟨o, ho, hex, hd⟩ := R.obj
  generalize hH : hsK P w k = Z at *
  rw [setSearchFrom_succ]
  apply wpAny_bind (wpAny_setState_of ho hd R.fit _)
  dsimp only
  apply wp_if_neg R.stays
  try apply wpAny_bind (wpAny_pure _)
  have jw : ∀ q, (nth t.mask (stp t Z c) q).j = way t.mask Z (c + q) := fun q => by rw [stp_add, stp_j]
  have eK : c + (K - c) = K := by omega
  have at_ : ∀ (i : Nat) p, L[i]? = some p → (fun i => (es[i]?.map (·.1)).getD 0) i = hsK P w p.2 := fun i p hp => by
    simp only [rowsK_get R.rws hp, Option.map_some, Option.getD_some]
  rcases go_spec t R.tbl.ris R.tbl.dm (fun i => (es[i]?.map (·.1)).getD 0) Z (10 * SetTable.turns t.mask) (K - c) (stp t Z c) (stp_nodummy t Z c) (by omega)
      (fun q hq => by rw [jw]; exact hb _ (by omega)) (by rw [jw, eK]; exact hK) with ⟨q, i, hq, hi, hh, hno, hpr⟩ | ⟨hno, hpr⟩
  · -- a candidate at the (c + q)-th step
    rw [jw] at hi
    have pr : t.probe (fun i => (es[i]?.map (·.1)).getD 0) Z (st.getD (t.probeStart Z)) = some (.candidate (way t.mask Z (c + q)) i (stp t Z (c + (q + 1)))) := by
      rw [hst, ← jw, ← stp_add]
      exact hpr
    rw [pr]
    dsimp only
    have hil : i < L.length := by
      have h1 := (List.getElem?_eq_some_iff.mp hi).1
      have h2 := R.tbl.sz
      rw [List.length_map] at h2
      rw [Array.length_toList, h2] at h1
      exact h1
    obtain ⟨p, hp⟩ : ∃ p, L[i]? = some p := ⟨L[i], List.getElem?_eq_getElem hil⟩
    have pm : p ∈ L := List.mem_of_getElem? hp
    have pe := rowsK_get R.rws hp
    have sl : t.slot (way t.mask Z (c + q)) = .live i := slot_live R.tbl.ris hi
    have go : wpAny (model P w) A (searchRest a (.ref x) Z true f es t (way t.mask Z (c + q)) i (stp t Z (c + (q + 1)))) Q E s := by
      unfold searchRest
      rw [pe]
      dsimp only
      apply wpAny_bind (wpAny_holding (wpAny_eqBool_tuple hu (R.mem p pm) hx _))
      apply wpAny_bind (wpAny_setState_of ho hd R.fit _)
      dsimp only
      by_cases hpk : p.2 = k
      · exact wp_if_pos (by simp [hpk]) (wpAny_pure (yes (List.mem_map.mpr ⟨p, pm, hpk⟩)))
      · apply wp_if_neg (by simp [hpk])
        try apply wpAny_bind (wpAny_pure _)
        rw [sameMem]
        dsimp only
        simp only [if_true, sl, pe]
        apply wpAny_bind (wpAny_isSame_ref_self (wpAny_bind (wpAny_pure _)))
        simp only [if_true]
        apply wp_if_neg (by simp [hpk])
        apply ih (c + (q + 1)) _ rfl (by omega) (by omega)
        intro i0 p0 h0 hk0
        obtain ⟨d, d1, d2, d3⟩ := hre i0 p0 h0 hk0
        refine ⟨d, ?_, d2, d3⟩
        have z0 : hsK P w p0.2 = Z := by rw [hk0, hH]
        by_cases z : d < c + q
        · exact absurd ((at_ i0 p0 h0).trans z0) (hno (d - c) i0 (by omega) (by rw [jw, show c + (d - c) = d by omega]; exact d3))
        · by_cases y : d = c + q
          · subst y
            have s0 := slot_live R.tbl.ris d3
            rw [sl] at s0
            injection s0 with s0
            subst s0
            rw [hp] at h0
            exact absurd ((congrArg Prod.snd (Option.some.inj h0)).trans hk0) hpk
          · omega
    by_cases hl : t.led = true
    · apply wp_if_neg (by simp [hl])
      try apply wpAny_bind (wpAny_pure _)
      exact go
    · apply wp_if_pos (by simp [hl])
      apply wpAny_bind (unseen_tupK hx _ _)
      · intro y hy
        obtain ⟨e, he, rfl⟩ := List.mem_map.mp hy
        have he2 : e ∈ es.toList := by simpa using (by simpa using he : e ∈ es ∧ e.1 = Z).1
        rw [R.rws] at he2
        obtain ⟨p2, hp2, rfl⟩ := List.mem_map.mp he2
        exact ⟨p2.2, p2.1, rfl, R.mem p2 hp2⟩
      · apply wp_if_neg (by decide)
        try apply wpAny_bind (wpAny_pure _)
        exact go
  · -- the empty slot
    have pr : t.probe (fun i => (es[i]?.map (·.1)).getD 0) Z (st.getD (t.probeStart Z)) = some (.empty (way t.mask Z K) none) := by
      have e2 : (nth t.mask (stp t Z c) (K - c)).j = way t.mask Z K := by rw [jw, eK]
      rw [hst, ← e2]
      exact hpr
    rw [pr]
    dsimp only
    apply wpAny_pure (no _)
    intro hm
    obtain ⟨p0, h0, hk0⟩ := List.mem_map.mp hm
    obtain ⟨i0, hi0⟩ := List.mem_iff_getElem?.mp h0
    obtain ⟨d, d1, d2, d3⟩ := hre i0 p0 hi0 hk0
    exact hno (d - c) i0 (by omega) (by rw [jw, show c + (d - c) = d by omega]; exact d3) ((at_ i0 p0 hi0).trans (by rw [show p0.2 = k from hk0, hH]))
/-- the search that adding asks for -/
theorem searchK0 (R : SetK P w s.heap a L es ep t) {x : Addr} {k : List Key} (hx : TupK P w s.heap k x) (hu : A.units < cLine) {Q : SetFound → Shared → Prop}
    (yes : k ∈ keysK L → Q (.there none) s)
    (no : ∀ K, k ∉ keysK L → way t.mask (hsK P w k) K ∉ t.place.toList → (∀ c, c < K → way t.mask (hsK P w k) c ∈ t.place.toList) → Q (.free (way t.mask (hsK P w k) K) false) s) :
    wpAny (model P w) A (setSearch a (.ref x) (hsK P w k) true) Q E s := by
  have rm := R.rom
  obtain ⟨K, hf, hK, hb⟩ := R.tbl.first (by rw [List.length_map]; omega) (hsK P w k)
  have big : K < 100000 := by
    refine Nat.lt_trans hf ?_
    unfold SetTable.turns
    rcases R.tbl.mok with e | e | e <;> rw [e] <;> decide
  unfold setSearch
  apply searchK R hx hu hf hK hb yes (fun hn => no K hn hK hb) 100000 0 none rfl (Nat.zero_le _) (by omega)
  intro i p hp hk
  have hl : i < t.place.toList.length := by
    have h1 := (List.getElem?_eq_some_iff.mp hp).1
    have h2 := R.tbl.sz
    rw [List.length_map] at h2
    rw [Array.length_toList]
    omega
  have hj := List.getElem?_eq_getElem hl
  have hi : (L.map fun p => hsK P w p.2)[i]? = some (hsK P w k) := by simp [hp, hk]
  obtain ⟨c, hc, e⟩ := R.tbl.before hK hi hj
  exact ⟨c, Nat.zero_le _, hc, by rw [hj, e]⟩

/-- a tuple stands while the set changes -/
theorem TupK.but {h h' : Heap} {k : List Key} {a b : Addr} {o : Obj} {es : Array (Int × Value)} {ep : Nat} {t : SetTable} (hb : TupK P w h k b) (ho : h.get? a = some o) (hd : o.data = .set es ep t) (hs : Heap.SameBut a h h') : TupK P w h' k b := by
  obtain ⟨u, its, n, h1, h2, h3, h4⟩ := hb
  have ne : b ≠ a := fun e => by
    subst e
    rw [h1] at ho
    cases ho
    rw [h3] at hd
    cases hd
  exact ⟨u, its, n, (hs.2 b ne).trans h1, h2, h3, h4⟩
theorem TupK.kept {h h' : Heap} {k : List Key} {b : Addr} (x : TupK P w h k b) (hk : ∀ c o, h.get? c = some o → h'.get? c = some o) : TupK P w h' k b := by
  obtain ⟨u, its, n, h1, r⟩ := x
  exact ⟨u, its, n, hk _ _ h1, r⟩
theorem ins_perm {α : Type} (L : List α) (p : Nat) (x : α) : (L.take p ++ x :: L.drop p).Perm (x :: L) :=
  List.perm_middle.trans (by rw [List.take_append_drop])
theorem range_get {α : Type} (L : List α) : (List.range L.length).filterMap (fun i => L[i]?) = L := by
  have key : ∀ n, n ≤ L.length → (List.range n).filterMap (fun i => L[i]?) = L.take n := by
    intro n
    induction n with
    | zero => exact fun _ => rfl
    | succ n ih =>
      intro hn
      have e := List.getElem?_eq_getElem (show n < L.length from hn)
      rw [List.range_succ, List.filterMap_append, ih (by omega), List.take_succ, e]
      simp [e]
  rw [key _ (Nat.le_refl _), List.take_length]
/-- the rows in another order -/
theorem rows_order (L : List Row) (es : Array (Int × Value)) (ord : Array Nat) (hr : es.toList = rowsK P w L) (hp : ord.toList.Perm (List.range L.length)) :
    ∃ L2, (ord.filterMap (es[·]?)).toList = rowsK P w L2 ∧ L2.Perm L ∧ (L2.map fun p => hsK P w p.2) = ord.toList.map fun i => (es.map (·.1)).getD i 0 := by
  have sz := rowsK_len hr
  have key : ∀ l : List Nat, (∀ i, i ∈ l → i < L.length) → l.filterMap (fun i => es[i]?) = rowsK P w (l.filterMap fun i => L[i]?) ∧
      ((l.filterMap fun i => L[i]?).map fun p => hsK P w p.2) = l.map fun i => (es.map (·.1)).getD i 0 := by
    intro l
    induction l with
    | nil => exact fun _ => ⟨rfl, rfl⟩
    | cons i l ih =>
      intro hl
      have hi := List.getElem?_eq_getElem (hl i List.mem_cons_self)
      obtain ⟨e1, e2⟩ := ih fun j hj => hl j (List.mem_cons_of_mem _ hj)
      have ee := rowsK_get hr hi
      constructor
      · rw [List.filterMap_cons_some ee, List.filterMap_cons_some hi, e1]
        rfl
      · rw [List.filterMap_cons_some hi, List.map_cons, List.map_cons, e2]
        have e3 : (es.map (·.1))[i]? = some (hsK P w (L[i]'(hl i List.mem_cons_self)).2) := by rw [Array.getElem?_map, ee]; rfl
        rw [show (es.map (·.1)).getD i 0 = hsK P w (L[i]'(hl i List.mem_cons_self)).2 by simp [Array.getD_eq_getD_getElem?, e3]]
  obtain ⟨e1, e2⟩ := key ord.toList fun i hi => List.mem_range.mp (hp.mem_iff.mp hi)
  refine ⟨ord.toList.filterMap fun i => L[i]?, ?_, ?_, e2⟩
  · rw [Array.toList_filterMap]
    exact e1
  · have z := hp.filterMap (fun i => L[i]?)
    rw [range_get] at z
    exact z

/-- the table laid anew -/
theorem relayK {o : Obj} (ho : s.heap.get? a = some o) (hex : o.ExactSet) (hd : o.data = .set es ep t) (hr : es.toList = rowsK P w L) (hsz : t.place.size = es.size) (hdm : t.dummies = #[]) (hfl : es.size ≤ t.mask)
    (uni : (keysK L).Nodup) (mem : ∀ p, p ∈ L → TupK P w s.heap p.2 p.1) (low : L.length < 64) {wn M : Nat}
    (hw : SetTable.sizeAbove wn - 1 = M) (hM : MaskOk M) (hw2 : SetTable.sizeAbove wn ≤ 128) (hn : L.length * 5 < M * 3) {Q : Unit → Shared → Prop}
    (q : ∀ h' L' es' ep' t', Heap.SameBut a s.heap h' → SetK P w h' a L' es' ep' t' → L'.Perm L → Q () { s with heap := h' }) : wpAny (model P w) A (setRelay a wn) Q E s := by
  have hsl := rowsK_len hr
  obtain ⟨t', ord, e, hp, T, em, _, _, _⟩ := relaid_ok t (hs := es.map (·.1)) (wanted := wn) hw hM (by rw [Array.size_map, hsl]; omega)
  rw [Array.size_map, hsl] at hp
  obtain ⟨L2, r1, r2, r3⟩ := rows_order L es ord hr hp
  have hs2 : (ord.filterMap (es[·]?)).size = L.length := by rw [rowsK_len r1, r2.length_eq]
  rw [← r3] at T
  rw [setRelay_eq]
  apply wpAny_bind (wpAny_setState_of ho hd (fits_of (m := 0) hdm hsz hfl) _)
  dsimp only
  apply wp_if_neg (by rw [sizeLine_eq]; omega)
  try apply wpAny_bind (wpAny_pure _)
  rw [e]
  dsimp only
  apply wpAny_bind
  apply wp_if_neg (by rw [hs2, hsl]; simp)
  try apply wpAny_bind (wpAny_pure _)
  apply wpAny_pure
  dsimp only
  apply wpAny_storeSet_of ho hd _ (by rw [hs2, sizeLine_eq]; omega)
  have sb : Heap.SameBut a s.heap (s.heap.update a (Obj.putSet (ord.filterMap (es[·]?)) t')) := Heap.SameBut.update ..
  apply q _ L2 (ord.filterMap (es[·]?)) (ep + 1) t' sb _ r2
  exact ⟨⟨_, store_at ho hd, ⟨hex.1, hex.2.1, hex.2.2⟩, rfl⟩, r1, T, (r2.map Prod.snd).nodup_iff.mpr uni, fun p hpm => TupK.but (mem p (r2.mem_iff.mp hpm)) ho hd sb, by rw [r2.length_eq, em]; exact hn, by rw [r2.length_eq]; exact low⟩

/-- a member more -/
theorem addK (R : SetK P w s.heap a L es ep t) {x : Addr} {k : List Key} (hx : TupK P w s.heap k x) (hu : A.units < cLine) (few : L.length + 1 < 64) {Q : Bool → Shared → Prop}
    (q : ∀ b h' L' es' ep' t', Heap.SameBut a s.heap h' → SetK P w h' a L' es' ep' t' → (k ∈ keysK L → L' = L) → (k ∉ keysK L → L'.Perm ((x, k) :: L)) → Q b { s with heap := h' }) :
    wpAny (model P w) A (setAddHashed a (.ref x) (hsK P w k)) Q E s := by
  obtain ⟨o, ho, hex, hd⟩ := R.obj
  have hsl := rowsK_len R.rws
  have rm := R.rom
  unfold setAddHashed
  apply wpAny_holding
  rw [show (100000 : Nat) = 99999 + 1 from rfl, setAddHashedIn_succ]
  apply wpAny_bind (wpAny_setState_of ho hd R.fit _)
  dsimp only
  apply wp_if_neg (by simp [byScan, Value.scannable])
  try apply wpAny_bind (wpAny_pure _)
  apply wpAny_bind (searchK0 R hx hu _ _)
  · intro hm
    dsimp only
    exact wpAny_pure (q false s.heap L es ep t (Heap.SameBut.refl a s.heap) R (fun _ => rfl) fun z => absurd hm z)
  intro K hm hK hb
  dsimp only
  apply wpAny_bind (wpAny_setState_of ho hd R.fit _)
  dsimp only
  obtain ⟨q1, q2, q3, q4, _, _, _, _, q9⟩ := R.tbl.put hK hb
  generalize hpt : t.put (way t.mask (hsK P w k) K) = pt at q1 q3 q4 q9 ⊢
  obtain ⟨t1, p⟩ := pt
  dsimp only at q1 q3 q4 q9 ⊢
  subst q1
  generalize hpp : SetTable.below t.place (way t.mask (hsK P w k) K) = p at *
  have ins : (SetTable.insertAt es p (hsK P w k, Value.ref x)).toList = rowsK P w (L.take p ++ (x, k) :: L.drop p) := by
    rw [SetTable.toList_insertAt, R.rws]
    simp [rowsK]
  have pm := ins_perm L p (x, k)
  have len1 : (L.take p ++ (x, k) :: L.drop p).length = L.length + 1 := pm.length_eq
  have T1 : TabOk t1 ((L.take p ++ (x, k) :: L.drop p).map fun p => hsK P w p.2) := by
    have e : (L.take p ++ (x, k) :: L.drop p).map (fun p => hsK P w p.2) = (L.map fun p => hsK P w p.2).take p ++ hsK P w k :: (L.map fun p => hsK P w p.2).drop p := by simp
    rw [e]
    exact q3
  have uni1 : (keysK (L.take p ++ (x, k) :: L.drop p)).Nodup := (pm.map Prod.snd).nodup_iff.mpr (List.nodup_cons.mpr ⟨hm, R.uni⟩)
  have sz1 := rowsK_len ins
  rw [len1] at sz1
  generalize SetTable.insertAt es p (hsK P w k, Value.ref x) = es1 at *
  generalize L.take p ++ (x, k) :: L.drop p = L1 at *
  have main : ∀ t2 : SetTable, t2.place = t1.place → t2.dummies = t1.dummies → t2.mask = t1.mask → t2.fill = t1.fill →
      wpAny (model P w) A (do
        storeSet a es1 t2
        if !false && t2.tooFull then setRelay a (SetTable.grown (es.size + 1))
        return true) Q E s := by
    intro t2 f1 f2 f3 f4
    have T2 : TabOk t2 (L1.map fun p => hsK P w p.2) := by
      obtain ⟨a1, a2, a3, a4, a5, a6⟩ := T1
      exact ⟨by rw [f1]; exact a1, by rw [f2]; exact a2, by rw [f1]; exact a3, by rw [f3]; exact a4, by rw [f1, f3]; exact a5, by rw [f1, f3]; exact a6⟩
    apply wpAny_bind (wpAny_storeSet_of ho hd _ (by rw [sz1, sizeLine_eq]; omega))
    have sb : Heap.SameBut a s.heap (s.heap.update a (Obj.putSet es1 t2)) := Heap.SameBut.update ..
    have ho1 := store_at (es' := es1) (t' := t2) ho hd
    generalize s.heap.update a (Obj.putSet es1 t2) = h1 at sb ho1 ⊢
    have mem1 : ∀ p, p ∈ L1 → TupK P w h1 p.2 p.1 := fun p hp => by
      rcases List.mem_cons.mp (pm.mem_iff.mp hp) with e | hp
      · rw [e]; exact TupK.but hx ho hd sb
      · exact TupK.but (R.mem p hp) ho hd sb
    have fl : t2.tooFull = decide (t2.fill * 5 ≥ t2.mask * 3) := rfl
    rw [f4, q9, List.length_map] at fl
    by_cases hf : t2.tooFull = true
    · rw [hf]
      rw [hf] at fl
      have full : (L.length + 1) * 5 ≥ t2.mask * 3 := of_decide_eq_true fl.symm
      have two : (t2.mask = 7 ∧ L.length = 4) ∨ (t2.mask = 31 ∧ L.length = 18) := by
        rw [f3, q4] at full ⊢
        rcases R.tbl.mok with e | e | e <;> rw [e] at full rm ⊢ <;> omega
      have go : ∀ M, SetTable.sizeAbove (SetTable.grown (L.length + 1)) - 1 = M → MaskOk M → SetTable.sizeAbove (SetTable.grown (L.length + 1)) ≤ 128 → (L.length + 1) * 5 < M * 3 →
          wpAny (model P w) A (setRelay a (SetTable.grown (L.length + 1))) (fun _ s' => wpAny (model P w) A (pure true) Q E s') E { s with heap := h1 } := by
        intro M a1 a2 a3 a4
        apply relayK (s := { s with heap := h1 }) ho1 ⟨hex.1, hex.2.1, hex.2.2⟩ rfl ins (by rw [T2.sz, List.length_map, len1, sz1]) T2.dm (by rw [sz1]; rcases two with ⟨e, e2⟩ | ⟨e, e2⟩ <;> omega) uni1 mem1 (by rw [len1]; exact few) a1 a2 a3 (by rw [len1]; exact a4)
        intro h2 L2 es2 ep2 t3 sb2 R2 pm2
        exact wpAny_pure (q true h2 L2 es2 ep2 t3 (sb.trans sb2) R2 (fun z => absurd z hm) fun _ => pm2.trans pm)
      simp only [Bool.not_false, Bool.and_self, if_true]
      apply wpAny_bind
      rw [hsl]
      rcases two with ⟨_, e2⟩ | ⟨_, e2⟩
      · exact go 31 (by rw [e2, size_20]) (.inr (.inl rfl)) (by rw [e2, size_20]; decide) (by omega)
      · exact go 127 (by rw [e2, size_76]) (.inr (.inr rfl)) (by rw [e2, size_76]; decide) (by omega)
    · have hf' : t2.tooFull = false := by simpa using hf
      rw [hf']
      rw [hf'] at fl
      have nf : ¬ (L.length + 1) * 5 ≥ t2.mask * 3 := of_decide_eq_false fl.symm
      simp only [Bool.and_false, Bool.false_eq_true, if_false]
      try apply wpAny_bind (wpAny_pure _)
      exact wpAny_pure (q true h1 L1 es1 (ep + 1) t2 sb ⟨⟨_, ho1, ⟨hex.1, hex.2.1, hex.2.2⟩, rfl⟩, ins, T2, uni1, mem1, by rw [len1]; omega, by rw [len1]; exact few⟩ (fun z => absurd z hm) fun _ => pm)
  by_cases hp : t1.plain = true
  · first
      | apply wp_if_pos hp (wpAny_bind (byValue_tupK hx _))
      | (apply wpAny_bind; apply wp_if_pos hp (byValue_tupK hx _))
    intro c
    cases c
    · exact main { t1 with plain := false } rfl rfl rfl rfl
    · exact main t1 rfl rfl rfl rfl
  · first
      | apply wp_if_neg hp (wpAny_bind (wpAny_pure _))
      | (apply wpAny_bind; apply wp_if_neg hp (wpAny_pure _))
    exact main t1 rfl rfl rfl rfl

/-- what the set has got from the first i items -/
structure Had (ks : List Row) (i : Nat) (L : List Row) : Prop where
  sub : ∀ p, p ∈ L → p ∈ ks.take i
  all : ∀ p, p ∈ ks.take i → p.2 ∈ keysK L
  len : L.length ≤ i
theorem Had.nil (ks : List Row) : Had ks 0 [] := ⟨fun _ h => (nomatch h), fun _ h => (by simp at h), Nat.le_refl _⟩
theorem take_one {α : Type} {l : List α} {i : Nat} {x : α} (h : l[i]? = some x) : l.take (i + 1) = l.take i ++ [x] := by
  simp [List.take_succ, h]
theorem Had.next {ks L L' : List Row} {i : Nat} {x : Row} (g : Had ks i L) (h : ks[i]? = some x) (c1 : x.2 ∈ keysK L → L' = L) (c2 : x.2 ∉ keysK L → L'.Perm (x :: L)) : Had ks (i + 1) L' := by
  by_cases c : x.2 ∈ keysK L
  · rw [c1 c]
    refine ⟨fun p hp => ?_, fun p hp => ?_, Nat.le_succ_of_le g.len⟩
    · rw [take_one h]
      exact List.mem_append_left _ (g.sub p hp)
    · rw [take_one h, List.mem_append, List.mem_singleton] at hp
      rcases hp with z | z
      · exact g.all p z
      · rw [z]; exact c
  · have pm := c2 c
    refine ⟨fun p hp => ?_, fun p hp => ?_, by rw [pm.length_eq]; exact Nat.succ_le_succ g.len⟩
    · rw [take_one h]
      rcases List.mem_cons.mp (pm.mem_iff.mp hp) with e | z
      · exact List.mem_append_right _ (by rw [e]; exact List.mem_singleton.mpr rfl)
      · exact List.mem_append_left _ (g.sub p z)
    · rw [keysK, (pm.map Prod.snd).mem_iff, List.map_cons]
      rw [take_one h, List.mem_append, List.mem_singleton] at hp
      rcases hp with z | z
      · exact List.mem_cons_of_mem _ (g.all p z)
      · rw [z]; exact List.mem_cons_self
theorem SetK.moved {h h' : Heap} (R : SetK P w h a L es ep t) (ha : ∀ o, h.get? a = some o → h'.get? a = some o) (ht : ∀ p, p ∈ L → TupK P w h' p.2 p.1) : SetK P w h' a L es ep t := by
  obtain ⟨o, ho, r⟩ := R.obj
  exact ⟨⟨o, ha o ho, r⟩, R.rws, R.tbl, R.uni, ht, R.rom, R.low⟩
/-- a new set's object -/
def set0 (b : Bool) : Obj := { cls := .type "set", dict := none, data := .set #[] 0 (.fresh 0 0 b) }
theorem setK_new {h : Heap} {b : Bool} (ho : h.get? a = some (set0 b)) : SetK P w h a [] #[] 0 (.fresh 0 0 b) :=
  ⟨⟨_, ho, ⟨rfl, rfl, rfl⟩, rfl⟩, rfl, ⟨List.Pairwise.nil, rfl, rfl, .inl rfl, fun _ hx => (nomatch hx), fun i z j hi => (by simp at hi)⟩, List.nodup_nil, fun _ hp => (nomatch hp), (by decide : 0 * 5 < 7 * 3), (by decide : 0 < 64)⟩

/-- the loop of set.update over a list of tuples -/
theorem loopK {I : Addr} {fp wr : List Addr} {G : Array GenState → Array GenState → Prop} {n : Nat} {Pv : Nat → Value → Prop} {St : Nat → Shared → Prop} {R : Result → Shared → Prop}
    (W : WalksS P w A.in1 I fp wr G n Pv St) (S : Addr) (nS : S ∉ fp) (ks : List Row) (hn : n = ks.length) (few : ks.length < 64) (val : ∀ i v, Pv i v → ∃ p, ks[i]? = some p ∧ v = .ref p.1)
    (g0 : Heap) (hk : ∀ p, p ∈ ks → TupK P w g0 p.2 p.1) (n0 : g0.get? S = none) (w0 : ∀ b, b ∈ wr → g0.get? b = none) (hu : A.in1.units < cLine) :
    ∀ (m i : Nat) (s : Shared), n - i = m → i ≤ n → St i s → (∀ b o, g0.get? b = some o → s.heap.get? b = some o) → (∃ L es ep t, SetK P w s.heap S L es ep t ∧ Had ks i L) →
      (∀ s' L es ep t, Moved (S :: wr) G s s' → SetK P w s'.heap S L es ep t → Had ks n L → (∀ b o, g0.get? b = some o → s'.heap.get? b = some o) → R (.ok (.ret .none)) s') →
      codeAny (model P w) A (.builtin "set.update.loop" ⟨[.ref S, .ref I], []⟩) R s := by
  have sw : S ∉ wr := fun h => nS (W.sub _ h)
  have up : ∀ b, b ∈ wr → b ∈ S :: wr := fun b hb => List.mem_cons_of_mem _ hb
  have kp : ∀ {s s' : Shared}, Moved wr G s s' → (∀ b o, g0.get? b = some o → s.heap.get? b = some o) → ∀ b o, g0.get? b = some o → s'.heap.get? b = some o := fun hm h b o e =>
    hm.heap b o (fun hb => by rw [w0 b hb] at e; cases e) (h b o e)
  intro m
  induction m with
  | zero =>
    intro i s hm hi hst hkp ⟨L, es, ep, t, hS, g⟩ hR
    obtain rfl : i = n := by omega
    apply codeAny_builtin F.entry_set_update_loop
    rw [Around.under_plainId F.plain_set_update_loop _]
    show wpAny _ A.in1 (pyNext (.ref I) >>= _) _ _ s
    apply wpAny_bind (W.done s _ _ hst _)
    intro s' mv
    show wpAny _ A.in1 (ret Value.none) _ _ s'
    have k2 := kp mv hkp
    exact wpAny_pure (hR s' L es ep t (mv.mono up) (hS.moved (fun o e => mv.heap S o sw e) fun p hp => TupK.kept (hk p (List.mem_of_mem_take (g.sub p hp))) k2) g k2)
  | succ m ih =>
    intro i s hm hi hst hkp ⟨L, es, ep, t, hS, g⟩ hR
    have lt : i < n := by omega
    apply codeAny_builtin F.entry_set_update_loop
    rw [Around.under_plainId F.plain_set_update_loop _]
    show wpAny _ A.in1 (pyNext (.ref I) >>= _) _ _ s
    apply wpAny_bind (W.item i s _ _ lt hst _)
    intro v s' hP hst' mv
    obtain ⟨p, hp, rfl⟩ := val i v hP
    have k2 := kp mv hkp
    have hS' : SetK P w s'.heap S L es ep t := hS.moved (fun o e => mv.heap S o sw e) fun q hq => TupK.kept (hk q (List.mem_of_mem_take (g.sub q hq))) k2
    have hx : TupK P w s'.heap p.2 p.1 := TupK.kept (hk p (List.mem_of_getElem? hp)) k2
    show wpAny _ A.in1 (holding [Value.ref p.1] (setAdd S (.ref p.1)) >>= _) _ _ s'
    apply wpAny_bind (wpAny_holding _)
    unfold setAdd
    apply wpAny_holding
    apply wpAny_bind (wpAny_pyHash_tuple hu hx _)
    apply addK (s := { s' with toks := s'.toks + (p.2.length + 1) }) hS' hx hu (by have := g.len; omega)
    intro b h' L' es' ep' t' sb hS2 c1 c2
    have k3 : ∀ b o, g0.get? b = some o → h'.get? b = some o := fun b o e => (sb.2 b (fun z => by rw [z, n0] at e; cases e)).trans (k2 b o e)
    have fr := W.frame (i + 1) s' h' (s'.toks + (p.2.length + 1)) hst' (Nat.le_add_right _ _) fun b hb o e => by
      rw [sb.2 b (fun h : b = S => nS (by rw [← h]; exact hb))]; exact e
    apply wpAny_pure
    refine ⟨plainId_quiet F.plain_set_update_loop _, ih (i + 1) _ (by omega) lt fr k3 ⟨L', es', ep', t', hS2, g.next hp c1 c2⟩ fun s'' L2 es2 ep2 t2 mv2 hS3 g3 k4 => ?_⟩
    refine hR s'' L2 es2 ep2 t2 (Moved.trans W.gtrans ((mv.mono up).then_heap (Nat.le_add_right _ _) fun b o hb e => ?_) mv2) hS3 g3 k4
    rw [sb.2 b fun h => hb (by rw [h]; exact List.mem_cons_self)]
    exact e

/-- what the loop of set(xs) does -/
structure SetLoop (P : Program) (w : World) (A : Around) (s : Shared) (l : Addr) (Post : Heap → Prop) : Prop where
  run : ∀ (led : Bool) (R : Result → Shared → Prop), (∀ h' tk, Post h' → (∀ b o, s.heap.get? b = some o → h'.get? b = some o) → R (.ok (.ret .none)) { s with heap := h', toks := tk }) →
    codeAny (model P w) A.in1.in1 (.builtin "set.update.loop" ⟨[.ref s.heap.objs.size, .ref (s.heap.push (set0 led)).objs.size], []⟩) R
      { s with heap := (s.heap.push (set0 led)).push { cls := .type "list_iterator", data := .fields #[.ref l, .int 0 0] } }
structure SetGoal (s : Shared) (Post : Heap → Prop) (Q : Value → Shared → Prop) : Prop where
  out : ∀ (h' : Heap) (tk : Nat), Post h' → (∀ b o, s.heap.get? b = some o → h'.get? b = some o) → Q (.ref s.heap.objs.size) { s with heap := h', toks := tk }
/-- set(xs), by what its loop does -/
theorem call_set_gen {l : Addr} {its : Array Value} (Post : Heap → Prop) {Q : Value → Shared → Prop} (hl : s.heap.IsList l its) (loop : SetLoop P w A s l Post) (q : SetGoal s Post Q) :
    wpAny (model P w) A (call (.type "set") [.ref l]) Q E s := by
  obtain ⟨c, tl, hmro⟩ := F.called_set.mro
  have y1 := F.called_set.made
  have y2 := F.called_set.sub
  apply wpAny_call (codeAny_of_tree _)
  show wpAny _ _ (callAny (.type "set") _) _ _ _
  apply wpAny_pure
  refine ⟨Code.quiet_builtin _ (by decide +kernel), codeAny_builtin F.entry_type_call ?_⟩
  rw [Around.under_plain (weight_type_call_type "set" [.ref l] []) rfl]
  have y3 := F.called_set.notType
  have y4 := F.called_set.canCreate
  have y5 := F.typeCall_set_1 (.ref l)
  repeat (any_goals (first | assumption | wp_step))
  generalize hb : (!w.params.followText "set-order") = led at *
  have z0 : ∀ b, s.heap.objs.size ≤ b → s.heap.get? b = none := fun b hb => by
    cases e : s.heap.get? b with
    | none => rfl
    | some o => exact absurd (Heap.lt_size e) (Nat.not_lt.mpr hb)
  have n1 : (s.heap.push (set0 led)).objs.size = s.heap.objs.size + 1 := Heap.size_push ..
  have g1 : (s.heap.push (set0 led)).get? s.heap.objs.size = some (set0 led) := Heap.get?_push_size _ rfl
  apply codeAny_mono (code_set_led1 (.ref l) (E := E) (Q₁ := fun obj s₁ => obj = .ref s.heap.objs.size ∧ s₁ = { s with heap := s.heap.push (set0 led) }) ⟨rfl, by rw [hb]; rfl⟩)
  intro r s₁ hr
  rcases r with e | fl
  · exact hr
  cases fl with
  | next => exact hr.elim
  | brk => exact hr.elim
  | cont => exact hr.elim
  | ret obj =>
  obtain ⟨rfl, rfl⟩ := hr
  have ty : Shared.TypeIs { s with heap := s.heap.push (set0 led) } (.ref s.heap.objs.size) "set" := ⟨_, g1, rfl⟩
  have x1 := F.called_set.init.lookup
  have x2 := F.called_set.init.bind (.ref s.heap.objs.size)
  repeat (any_goals (first | assumption | wp_step))
  apply codeAny_mono (codeAny_call_builtin (R := wants (fun r s₂ => r = .none ∧ ∃ h' tk, s₂ = { s with heap := h', toks := tk } ∧ Post h' ∧
    (∀ b o, s.heap.get? b = some o → h'.get? b = some o)) E) F.called_set.init.plain F.entry_set_init (check_set_init_1 ty _))
  · intro r₂ s₂ hr₂
    rcases r₂ with e | fl₂
    · exact hr₂
    cases fl₂ with
    | next => exact hr₂.elim
    | brk => exact hr₂.elim
    | cont => exact hr₂.elim
    | ret r =>
      obtain ⟨rfl, h', tk, rfl, g, k⟩ := hr₂
      repeat (any_goals (first | assumption | wp_step))
      exact q.out _ _ g k
  obtain ⟨⟨oc, od, odt, osl⟩, hol, hcl, nl, hdl⟩ := hl
  dsimp only at hcl hdl
  subst hcl hdl
  have ls : l < s.heap.objs.size := Heap.lt_size hol
  have g2 := Heap.get?_push_of_some (set0 led) hol
  have w1 := F.sub_list_set
  have w2 := F.sub_list_frozenset
  have w3 : (Value.type "list" == Value.type "dict") = false := by decide
  have hl1 : (s.heap.push (set0 led)).IsList l its := ⟨_, g2, rfl, nl, rfl⟩
  unfold Builtin.«set.__init__» noKeywords Builtin.Frozenset.updateFrom
  generalize hPI : pyIter = PI
  clear q y1 y2 y3 y4 y5 x1 x2 ty g1 z0 n1 hb
  wp_walk
  subst hPI
  apply wpAny_pyIter_list hl1
  apply wpAny_bind (wpAny_runValue _)
  refine loop.run led _ fun h' tk g k => ?_
  show wpAny _ _ _ _ _ _
  apply wpAny_pure
  show wpAny _ _ (ret Value.none) _ _ _
  exact wpAny_pure ⟨rfl, h', tk, rfl, g, k⟩
theorem no_above {h : Heap} {b : Addr} (hb : h.objs.size ≤ b) : h.get? b = none := by
  cases e : h.get? b with
  | none => rfl
  | some o => exact absurd (Heap.lt_size e) (Nat.not_lt.mpr hb)
/-- set(xs), xs a list of such tuples -/
theorem call_setK {l : Addr} {its : Array Value} (ks : List Row) {Q : Value → Shared → Prop} (hh : A.handled = none) (hl : s.heap.IsList l its) (hit : its.toList = ks.map fun p => Value.ref p.1)
    (hk : ∀ p, p ∈ ks → TupK P w s.heap p.2 p.1) (few : ks.length < 64) (hu : A.units + 3 < cLine)
    (q : ∀ (h' : Heap) (tk : Nat) L es ep t, SetK P w h' s.heap.objs.size L es ep t → Had ks ks.length L → (∀ b o, s.heap.get? b = some o → h'.get? b = some o) → Q (.ref s.heap.objs.size) { s with heap := h', toks := tk }) :
    wpAny (model P w) A (call (.type "set") [.ref l]) Q E s := by
  have isz : its.size = ks.length := by
    have z : its.toList.length = (ks.map fun p => Value.ref p.1).length := by rw [hit]
    simpa using z
  refine call_set_gen (fun h' => ∃ L es ep t, SetK P w h' s.heap.objs.size L es ep t ∧ Had ks ks.length L) hl ⟨?_⟩ ⟨fun h' tk ⟨L, es, ep, t, hS, g⟩ k => q h' tk L es ep t hS g k⟩
  intro led R hR
  have n1 : (s.heap.push (set0 led)).objs.size = s.heap.objs.size + 1 := Heap.size_push ..
  have g1 : (s.heap.push (set0 led)).get? s.heap.objs.size = some (set0 led) := Heap.get?_push_size _ rfl
  have hl1 := hl.push (set0 led)
  have ls : l < s.heap.objs.size := by
    obtain ⟨o, ho, _⟩ := hl
    exact Heap.lt_size ho
  have h3 : A.in1.in1.in1.handled = none := by simp [hh]
  have nI : l ≠ (s.heap.push (set0 led)).objs.size := by
    rw [n1]
    exact Nat.ne_of_lt (Nat.lt_succ_of_lt ls)
  have val : ∀ (i : Nat) (v : Value), its[i]? = some v → ∃ p, ks[i]? = some p ∧ v = .ref p.1 := fun i v hv => by
    rw [← Array.getElem?_toList, hit, List.getElem?_map] at hv
    obtain ⟨p, e1, e2⟩ := Option.map_eq_some_iff.mp hv
    exact ⟨p, e1, e2.symm⟩
  refine loopK ((Walks.list h3 _ l nI its).toS) s.heap.objs.size ?n1 ks isz few val s.heap hk (no_above (Nat.le_refl _)) ?n2 hu (its.size - 0) 0 _ (by omega) (Nat.zero_le _)
    ⟨⟨_, Heap.get?_push_size _ rfl, rfl, rfl⟩, (hl1.push _)⟩ (fun b o e => Heap.get?_push_of_some _ (Heap.get?_push_of_some _ e)) ⟨[], #[], 0, _, setK_new (Heap.get?_push_of_some _ g1), Had.nil ks⟩ ?n3
  case n1 =>
    rw [n1]
    simp only [List.mem_cons, List.not_mem_nil, or_false, not_or]
    exact ⟨Nat.ne_of_lt (Nat.lt_succ_self _), Nat.ne_of_gt ls⟩
  case n2 =>
    intro b hb
    rw [List.mem_singleton.mp hb, n1]
    exact no_above (Nat.le_succ _)
  case n3 =>
    intro s' L es ep t mv hS g k
    obtain ⟨h', g2, d', tk', os'⟩ := s'
    obtain rfl : g2 = s.gens := mv.gens
    obtain rfl : d' = s.drawn := mv.drawn
    obtain rfl : os' = s.os := mv.os
    rw [isz] at g
    exact hR h' tk' ⟨L, es, ep, t, hS, g⟩ k
end

/-! ### len(set(xs)) as a rule of the layer -/
/-- how many different ones -/
def many {α : Type} [DecidableEq α] (l : List α) : Nat := l.eraseDups.length
section
variable {X : Cx}
theorem TupK.of {pins : List (Addr × Obj)} {σ : L2.St} {H : Hp} {s : Shared} (I : Inv X pins σ H s) {a : Addr} {k : List Key} (h : SqT X.K H a (k.map kV)) : TupK X.prog X.w s.heap k a := by
  obtain ⟨its, rv, ⟨o, h1, h2, n, h3⟩, z⟩ := I.tuple h
  refine ⟨o, its.toArray, n, h1, h2, h3, ?_⟩
  rw [List.toList_toArray]
  clear h1 h2 h3 h z
  induction k generalizing its with
  | nil =>
    cases rv
    exact .nil
  | cons x k ih =>
    cases rv with
    | cons r t =>
      refine .cons ?_ (ih _ t)
      cases x with
      | inl i =>
        obtain ⟨t, rfl⟩ := r
        exact keyIs_int i t
      | inr z =>
        obtain ⟨t, rfl⟩ := r
        exact keyIs_str z t
def tLenSetK (K : PySem.W.Frag) (ta : TE) : TE := fun σ H Q => ta σ H fun x H1 => ∃ (l : Addr) (ks : List Row), x = V.ref l ∧ SqL K H1 l (ks.map fun p => V.ref p.1) ∧ (∀ p, p ∈ ks → SqT K H1 p.1 (p.2.map kV)) ∧ ks.length < 64 ∧
  ∀ n : Nat, (∀ D : List (List Key), D.Nodup → (∀ k, k ∈ D ↔ k ∈ keysK ks) → D.length = n) → Q (.int n) H1
theorem nodup_same {α : Type} : ∀ {l m : List α}, l.Nodup → m.Nodup → (∀ x, x ∈ l ↔ x ∈ m) → l.length = m.length := fun h1 h2 h =>
  ((List.perm_ext_iff_of_nodup h1 h2).mpr h).length_eq
theorem pe_lenSetK {a : Expr} {ta : TE} {p p2 q pos : Pos} (hc : X.calm = true) (hg : Gl X "len") (hm : X.mg "len" = none) (hg2 : Gl X "set") (hm2 : X.mg "set" = none) (ha : PE X a ta) (hu : X.A.units + 64 < cLine)
    (na : starEach [a] X.env = (false, eval a X.env) :: starEach [] X.env := by rfl) : PE X (.Call (.Name "len" p) [.Call (.Name "set" p2) [a] [] q] [] pos) (tLenSetK X.K ta) := by
  refine ⟨fun pins s σ H Q I h => ?_⟩
  apply Call_ (ld_blt I hg hm PySem.boot_len _)
  apply PyProof.Rows.callWith_builtin1 (PyProof.Rows.args_cons _ rfl) rfl rfl
  apply Call_ (ld_blt I hg2 hm2 PyProof.Rows.boot_set _)
  apply PyProof.Rows.callWith_type1 (PyProof.Rows.args_cons (thn (ha.run pins s σ H _ I h) _) na) na rfl
  rintro v s1 ⟨x, H1, I1, r1, l, ks, rfl, hl, hk, few, q1⟩
  apply PyProof.Rows.args_nil
  cases r1
  obtain ⟨its, rv, pl, hz⟩ := I1.list hl
  have e1 : its = ks.map fun p => Value.ref p.1 := by
    clear hl pl hz hk few q1 I1
    induction ks generalizing its with
    | nil =>
      cases rv
      rfl
    | cons p ks ih =>
      cases rv with
      | cons r t =>
        cases r
        rw [List.map_cons, ih _ t]
  apply call_setK ks (I1.ok.hd hc) pl.isList (by rw [List.toList_toArray, e1]) (fun p hp => TupK.of I1 (hk p hp)) few (by omega)
  intro h' tk L es ep t R g k
  apply PyProof.Rows.args_nil
  have I2 : Inv X pins σ H1 { s1 with heap := h', toks := tk } := I1.kept fun b o e => k b o e
  have ln := rowsK_len R.rws
  have hL : L.length = (keysK L).length := by simp [keysK]
  obtain ⟨o, ho, hex, hd⟩ := R.obj
  have fin := q1 L.length fun D h1 h2 => by
    rw [hL]
    refine nodup_same h1 R.uni fun x => ?_
    rw [h2, keysK, List.mem_map]
    constructor
    · rintro ⟨p, hp, rfl⟩
      exact g.all p (by rw [List.take_length]; exact hp)
    · intro hx
      obtain ⟨p, hp, rfl⟩ := List.mem_map.mp hx
      exact ⟨p, by have := g.sub p hp; rwa [List.take_length] at this, rfl⟩
  have lo := R.low
  exact call_len_set ho hex hd (SetK.fit (s := { s1 with heap := h', toks := tk }) R) (by rw [ln]; omega) ⟨.int L.length, H1, I2.tok _, ⟨_, by rw [ln]⟩, fin⟩
end
end Kx
/-! len(set(xs)), xs a list of texts. -/
namespace Kx
open PySem PySem.Spec PyProof.Rows L2
/-- how many different ones stand in a list -/
def cnt {α : Type} [DecidableEq α] : List α → Nat
  | [] => 0
  | x :: l => if x ∈ l then cnt l else cnt l + 1
section
variable {P : Program} {w : World} {A : Around} {E : Value → Shared → Prop} {s : Shared}
def inS (xs : List Str) (k : Str) : Bool := decide (k ∈ xs)
theorem cnt_rev_append {α : Type} [DecidableEq α] : ∀ (l : List α) (x : α), cnt (l ++ [x]) = if x ∈ l then cnt l else cnt l + 1
  | [], x => by simp [cnt]
  | y :: l, x => by
    have ih := cnt_rev_append l x
    by_cases h3 : y = x
    · subst h3
      by_cases h1 : y ∈ l <;> simp_all [cnt]
    · have h4 : ¬ x = y := fun e => h3 e.symm
      by_cases h1 : x ∈ l <;> by_cases h2 : y ∈ l <;> simp_all [cnt]
theorem cnt_le {α : Type} [DecidableEq α] : ∀ l : List α, cnt l ≤ l.length
  | [] => Nat.le_refl _
  | x :: l => by
    have := cnt_le l
    unfold cnt
    split <;> simp <;> omega
theorem loopS {I : Addr} {fp wr : List Addr} {G : Array GenState → Array GenState → Prop} {n : Nat} {Pv : Nat → Value → Prop} {St : Nat → Shared → Prop} {R : Result → Shared → Prop}
    (W : WalksS P w A.in1 I fp wr G n Pv St) (S : Addr) (nS : S ∉ fp) (xs : List Str) (hn : n = xs.length) (few : xs.length < 4000) (val : ∀ i v, Pv i v → ∃ x t, xs[i]? = some x ∧ v = .str x t)
    (g0 : Heap) (n0 : g0.get? S = none) (w0 : ∀ b, b ∈ wr → g0.get? b = none) :
    ∀ (m i : Nat) (s : Shared), n - i = m → i ≤ n → St i s → (∀ b o, g0.get? b = some o → s.heap.get? b = some o) → s.heap.SetOf (strKind P w) S (inS (xs.take i)) (cnt (xs.take i)) →
      (∀ s', Moved (S :: wr) G s s' → s'.heap.SetOf (strKind P w) S (inS xs) (cnt xs) → (∀ b o, g0.get? b = some o → s'.heap.get? b = some o) → R (.ok (.ret .none)) s') →
      codeAny (model P w) A (.builtin "set.update.loop" ⟨[.ref S, .ref I], []⟩) R s := by
  have sw : S ∉ wr := fun h => nS (W.sub _ h)
  have up : ∀ b, b ∈ wr → b ∈ S :: wr := fun b hb => List.mem_cons_of_mem _ hb
  have kp : ∀ {s s' : Shared}, Moved wr G s s' → (∀ b o, g0.get? b = some o → s.heap.get? b = some o) → ∀ b o, g0.get? b = some o → s'.heap.get? b = some o := fun hm h b o e =>
    hm.heap b o (fun hb => by rw [w0 b hb] at e; cases e) (h b o e)
  have stay : ∀ {h h' : Heap} {f : Str → Bool} {c : Nat}, h.SetOf (strKind P w) S f c → (∀ o, h.get? S = some o → h'.get? S = some o) → h'.SetOf (strKind P w) S f c := fun ⟨o, es, ep, tb, ho, r⟩ k => ⟨o, es, ep, tb, k o ho, r⟩
  intro m
  induction m with
  | zero =>
    intro i s hm hi hst hkp hS hR
    obtain rfl : i = n := by omega
    apply codeAny_builtin F.entry_set_update_loop
    rw [Around.under_plainId F.plain_set_update_loop _]
    show wpAny _ A.in1 (pyNext (.ref I) >>= _) _ _ s
    apply wpAny_bind (W.done s _ _ hst _)
    intro s' mv
    show wpAny _ A.in1 (ret Value.none) _ _ s'
    rw [hn, List.take_length] at hS
    exact wpAny_pure (hR s' (mv.mono up) (stay hS fun o e => mv.heap S o sw e) (kp mv hkp))
  | succ m ih =>
    intro i s hm hi hst hkp hS hR
    have lt : i < n := by omega
    apply codeAny_builtin F.entry_set_update_loop
    rw [Around.under_plainId F.plain_set_update_loop _]
    show wpAny _ A.in1 (pyNext (.ref I) >>= _) _ _ s
    apply wpAny_bind (W.item i s _ _ lt hst _)
    intro v s' hP hst' mv
    obtain ⟨x, t, hx, rfl⟩ := val i v hP
    have k2 := kp mv hkp
    have hS' := stay hS fun o e => mv.heap S o sw e
    have room : cnt (xs.take i) ≤ i := Nat.le_trans (cnt_le _) (by rw [List.length_take]; omega)
    show wpAny _ A.in1 (holding [Value.str x t] (setAdd S (.str x t)) >>= _) _ _ s'
    apply wpAny_bind (wpAny_holding _)
    unfold setAdd
    apply wpAny_holding
    apply wpAny_bind ((PySem.strKind P w).pyHash (k := x) (strKind_is _ _ _ _) _)
    apply wpAny_setAddHashed_of (knd := PySem.strKind P w) (s := { s' with toks := s'.toks + 1 }) (strKind_is _ _ _ _) rfl hS' (by unfold scanBound; omega)
    intro h' sb hS2
    have k3 : ∀ b o, g0.get? b = some o → h'.get? b = some o := fun b o e => (sb.2 b (fun z => by rw [z, n0] at e; cases e)).trans (k2 b o e)
    have fr := W.frame (i + 1) s' h' (s'.toks + 1) hst' (Nat.le_add_right _ _) fun b hb o e => by
      rw [sb.2 b (fun h : b = S => nS (by rw [← h]; exact hb))]; exact e
    have hS3 : h'.SetOf (PySem.strKind P w) S (inS (xs.take (i + 1))) (cnt (xs.take (i + 1))) := by
      refine SetOf_congr hS2 (fun k => ?_) ?_
      · rw [take_one hx]
        by_cases e : k = x <;> by_cases e2 : k ∈ xs.take i <;> simp [inS, e, e2]
      · rw [take_one hx, cnt_rev_append]
        by_cases e : x ∈ xs.take i <;> simp [inS, e]
    apply wpAny_pure
    refine ⟨plainId_quiet F.plain_set_update_loop _, ih (i + 1) _ (by omega) lt fr k3 hS3 fun s'' mv2 hS4 k4 => ?_⟩
    refine hR s'' (Moved.trans W.gtrans ((mv.mono up).then_heap (Nat.le_add_right _ _) fun b o hb e => ?_) mv2) hS4 k4
    rw [sb.2 b fun h => hb (by rw [h]; exact List.mem_cons_self)]
    exact e
/-- set(xs), xs a list of texts -/
theorem call_setS {l : Addr} {its : Array Value} (xs : List Str) {Q : Value → Shared → Prop} (hh : A.handled = none) (hl : s.heap.IsList l its) (hi : PyProof.Rows.StrsAre its.toList xs) (few : xs.length < 4000)
    (q : ∀ (h' : Heap) (tk : Nat), h'.SetOf (strKind P w) s.heap.objs.size (inS xs) (cnt xs) → (∀ b o, s.heap.get? b = some o → h'.get? b = some o) → Q (.ref s.heap.objs.size) { s with heap := h', toks := tk }) :
    wpAny (model P w) A (call (.type "set") [.ref l]) Q E s := by
  have isz : its.size = xs.length := by rw [← StrsAre.len_eq hi, Array.length_toList]
  refine call_set_gen (fun h' => h'.SetOf (strKind P w) s.heap.objs.size (inS xs) (cnt xs)) hl ⟨?_⟩ ⟨fun h' tk hS k => q h' tk hS k⟩
  intro led R hR
  have n1 : (s.heap.push (set0 led)).objs.size = s.heap.objs.size + 1 := Heap.size_push ..
  have g1 : (s.heap.push (set0 led)).get? s.heap.objs.size = some (set0 led) := Heap.get?_push_size _ rfl
  have hl1 := hl.push (set0 led)
  have ls : l < s.heap.objs.size := by
    obtain ⟨o, ho, _⟩ := hl
    exact Heap.lt_size ho
  have h3 : A.in1.in1.in1.handled = none := by simp [hh]
  have nI : l ≠ (s.heap.push (set0 led)).objs.size := by
    rw [n1]
    exact Nat.ne_of_lt (Nat.lt_succ_of_lt ls)
  have val : ∀ (i : Nat) (v : Value), its[i]? = some v → ∃ x t, xs[i]? = some x ∧ v = .str x t := fun i v hv => by
    rw [← Array.getElem?_toList] at hv
    have lt : i < xs.length := by
      rw [← isz, ← Array.length_toList]
      exact (List.getElem?_eq_some_iff.mp hv).1
    obtain ⟨t, e⟩ := SS.strs_at hi i v hv
    exact ⟨xs[i], t, List.getElem?_eq_getElem lt, by rw [e]; simp [List.getD, List.getElem?_eq_getElem lt]⟩
  refine loopS ((Walks.list h3 _ l nI its).toS) s.heap.objs.size ?n1 xs isz few val s.heap (no_above (Nat.le_refl _)) ?n2 (its.size - 0) 0 _ (by omega) (Nat.zero_le _)
    ⟨⟨_, Heap.get?_push_size _ rfl, rfl, rfl⟩, (hl1.push _)⟩ (fun b o e => Heap.get?_push_of_some _ (Heap.get?_push_of_some _ e)) ?n4 ?n3
  case n1 =>
    rw [n1]
    simp only [List.mem_cons, List.not_mem_nil, or_false, not_or]
    exact ⟨Nat.ne_of_lt (Nat.lt_succ_self _), Nat.ne_of_gt ls⟩
  case n2 =>
    intro b hb
    rw [List.mem_singleton.mp hb, n1]
    exact no_above (Nat.le_succ _)
  case n3 =>
    intro s' mv hS k
    obtain ⟨h', g2, d', tk', os'⟩ := s'
    obtain rfl : g2 = s.gens := mv.gens
    obtain rfl : d' = s.drawn := mv.drawn
    obtain rfl : os' = s.os := mv.os
    exact hR h' tk' hS k
  case n4 =>
    refine ⟨set0 led, #[], 0, .fresh 0 0 led, Heap.get?_push_of_some _ g1, ⟨rfl, rfl, rfl⟩, rfl, ?_⟩
    exact ⟨fun e he => (nomatch he), fun k => ⟨fun h => (by simp [inS] at h), fun ⟨e, he, _⟩ => (nomatch he)⟩, (by decide : 0 < scanBound), rfl, by simp [cnt]⟩
end
section
variable {X : Cx}
theorem sAre_of : ∀ {xs : List Str} {us : List Value}, Vals (xs.map V.str) us → StrsAre us xs
  | [], _, .nil => .nil
  | x :: xs, _, .cons r t => by
    obtain ⟨tk, rfl⟩ := r
    exact .cons x tk (sAre_of t)
def tLenSetT (K : PySem.W.Frag) (ta : TE) : TE := fun σ H Q => ta σ H fun x H1 => ∃ (l : Addr) (xs : List Str), x = V.ref l ∧ SqL K H1 l (xs.map V.str) ∧ xs.length < 4000 ∧ Q (.int (cnt xs : Nat)) H1
theorem pe_lenSetT {a : Expr} {ta : TE} {p p2 q pos : Pos} (hc : X.calm = true) (hg : Gl X "len") (hm : X.mg "len" = none) (hg2 : Gl X "set") (hm2 : X.mg "set" = none) (ha : PE X a ta)
    (na : starEach [a] X.env = (false, eval a X.env) :: starEach [] X.env := by rfl) : PE X (.Call (.Name "len" p) [.Call (.Name "set" p2) [a] [] q] [] pos) (tLenSetT X.K ta) := by
  refine ⟨fun pins s σ H Q I h => ?_⟩
  apply Call_ (ld_blt I hg hm PySem.boot_len _)
  apply PyProof.Rows.callWith_builtin1 (PyProof.Rows.args_cons _ rfl) rfl rfl
  apply Call_ (ld_blt I hg2 hm2 PyProof.Rows.boot_set _)
  apply PyProof.Rows.callWith_type1 (PyProof.Rows.args_cons (thn (ha.run pins s σ H _ I h) _) na) na rfl
  rintro v s1 ⟨x, H1, I1, r1, l, xs, rfl, hl, few, q1⟩
  apply PyProof.Rows.args_nil
  cases r1
  obtain ⟨its, rv, pl, hz⟩ := I1.list hl
  apply call_setS xs (I1.ok.hd hc) pl.isList (by rw [List.toList_toArray]; exact sAre_of rv) few
  intro h' tk ⟨o, es, ep, t, ho, hex, hd, _, _, _, hf, hn⟩ k
  apply PyProof.Rows.args_nil
  have I2 : Inv X pins σ H1 { s1 with heap := h', toks := tk } := I1.kept fun b o e => k b o e
  have le := cnt_le xs
  exact call_len_set ho hex hd hf (by rw [hn]; omega) ⟨.int (cnt xs : Nat), H1, I2.tok _, ⟨_, by rw [hn]⟩, q1⟩
end
end Kx
/-! Further rules of the layer. -/
namespace Kx
open PySem PySem.Spec PyProof.Rows L2
section
variable {X : Cx}
/-- a power of a great number -/
theorem op_powX : OpR X (binaryOp .Pow) (rI (fun i j => 0 ≤ j ∧ (Builtin.Int.intBits i : Int) * j ≤ 2 ^ 27) fun i j => .int (i ^ j.toNat)) :=
  opI fun _ _ _ _ _ _ _ hc q => pow_int hc.1 hc.2 q
/-- one item more than a list's -/
theorem meets_extend_tup (l : Addr) (items : Array Value) (n : Nat) (b : Addr) (items2 : Array Value) (n2 : Nat) (od : Option Addr) (osl : Array (Option Value)) (hs0 : ¬(!items.isEmpty && Builtin.List.listTooLong (items.size + items2.size)) = true) (hs1 : items.size ≤ sizeLine) (hs2 : items.size + items2.size ≤ sizeLine + 1) :
    Meets (Builtin.«list.extend» ⟨[.ref l, .ref b], []⟩) (fun _ R s => s.heap.get? l = some { cls := .type "list", dict := none, data := .seq items n, slots := #[] } ∧ s.heap.get? b = some { cls := .type "tuple", dict := od, data := .seq items2 n2, slots := osl } ∧
      R (.ok (.ret Value.none)) { s with heap := s.heap.update l (Obj.mapSeq fun x => x ++ items2), toks := s.toks }) :=
  .of_wp fun prog w A R s h => by
    obtain ⟨hp, g, d, tk, os⟩ := s
    obtain ⟨hl, hb, h⟩ := h
    have f1 := AutoSeq1.idx_int
    have f2 := AutoSeq1.sub_tuple_tuple
    have f3 := AutoSeq1.sub_list_list
    have f4 := AutoSeq1.sub_tuple_list
    have f5 := AutoSeq1.sub_list_tuple
    have hz' : (items ++ items2).size ≤ sizeLine + 1 := by
      rw [Array.size_append]
      exact hs2
    wp_walk using (wpAny_updateSeq hl rfl (hz := hs1) (_hz' := hz')), AutoSeq1.wpAny_loadPart' hl, AutoSeq1.wpAny_loadPart' hb
    exact ⟨_, rfl, h⟩
/-- xs.extend(t), t a tuple -/
def rExtT (K : PySem.W.Frag) : V → List V → Hp → VK → Prop := fun x vs H Q => ∃ l b xs zs, x = .ref l ∧ vs = [.ref b] ∧ H l = some (.lst xs) ∧ SqT K H b zs ∧ xs.length + zs.length ≤ sizeLine ∧ Q .non (upd H l (.lst (xs ++ zs)))
theorem mt_extT : MtM X "list.extend" (rExtT X.K) := by
  intro pins s σ H x vs v us Q I rx rv h
  obtain ⟨l, b, xs, zs, rfl, rfl, hH, hB, hz, q⟩ := h
  cases rx
  obtain ⟨u, rfl, ru⟩ := rv.one
  cases ru
  obtain ⟨z, its, n, r, hl, e⟩ := I.lstM hH
  obtain ⟨its2, r2, ⟨⟨oc, od, odt, osl⟩, e2, hc, n2, hd⟩, z2⟩ := I.tuple hB
  dsimp only at hc hd
  subst hc hd
  have sz : its.toArray.size + its2.toArray.size ≤ sizeLine := by
    rw [List.size_toArray, List.size_toArray, ← r.length, ← r2.length]
    exact hz
  refine call_meets F.slot_list_extend ⟨_, e, rfl⟩ F.entry_list_extend (F.args_list_extend_2 _ _)
    (meets_extend_tup l its.toArray n b its2.toArray n2 od osl ?_ ?_ ?_) ⟨e, e2, ?_⟩
  · rw [notLongL sz, Bool.and_false]
    exact Bool.false_ne_true
  · omega
  · omega
  · refine ⟨.non, _, I.lset (its' := its ++ its2) hH e (by simp) (r.append r2) ?_, rfl, q⟩
    rw [List.length_append]
    exact hz
end
end Kx
/-! Defs that are called where no repr runs: the layer's promise of a def, with that told. -/
namespace Kx
open PySem PySem.Spec PyProof.Rows L2
/-- nothing around A shows itself -/
def Calm (A : Around) : Prop := A.guards = some []
/-- as FnOk, where nothing around shows itself -/
structure FnG (P : Program) (w : World) (K : PySem.W.Frag) (mg : Str → Option Value) (base : Heap) (k : Nat) (f : Addr) (fd : FuncData) (ps : List Str) (sp : Sp) : Prop where
  len : ∀ vs H Q E, sp vs H Q E → vs.length = ps.length
  run : ∀ (A : Around) (outer : List Env) (s : Shared) (H : Hp) (args : Args) (us : List Value) (vs : List V) (Q : VK) (E : XK), Calm A → Room k A → Env0 P w K mg base A outer s H → BindsTo s fd args (ps.zip us) → Vals vs us → sp vs H Q E →
    codeAny (model P w) A (.call (.ref f) args) (CR CX0 outer P w H s Q E) s
theorem calm_deeper {A : Around} {env : Env} (h : Calm A) : Calm (A.deeper env) := by
  unfold Calm at *
  show (A.deeper env).guards = some []
  simp [Around.deeper, h]
section
variable {P : Program} {w : World} {K : PySem.W.Frag} {mg : Str → Option Value} {base : Heap}
theorem fnG_mono {j k : Nat} {f : Addr} {fd : FuncData} {ps : List Str} {sp : Sp} (F : FnG P w K mg base j f fd ps sp) (h : j ≤ k) : FnG P w K mg base k f fd ps sp :=
  ⟨F.len, fun A outer s H args us vs Q E c hr => F.run A outer s H args us vs Q E c (hr.mono h)⟩
/-- THE RULE: a def of the text by its body -/
theorem okG {x qual : Str} {st : Stmt} {f : Addr} {fd : FuncData} {N ps : List Str} {k : Nat} {sp : Sp} (F : Fun K x qual st f fd) (S : FnScope N ps (defScope st)) (len : ∀ vs H Q E, sp vs H Q E → vs.length = ps.length)
    (hbody : ∀ (cdv : Value) (A : Around) (outer : List Env) (s : Shared) (H : Hp) (vs : List V) (Q : VK) (E : XK), Calm (A.deeper (envOfC qual (defScope st) s.heap.objs.size f cdv)) → Room k (A.deeper (envOfC qual (defScope st) s.heap.objs.size f cdv)) → sp vs H Q E →
      ∃ t, PSs (cxOf CX0 P w K mg base N qual (defScope st) f cdv A outer s H E).nox (defBody st) t ∧ t { nx := fun _ H' => Q .non H', rt := Q } (start N vs) H) : FnG P w K mg base (k + 1) f fd ps sp := by
  obtain ⟨oc, od, kV, doc, pm, an, cdv, ct, osl, rfl, lk, hcd⟩ := F.ex
  constructor
  · exact len
  intro A outer s H args us vs Q E cm hr e0 hb r hsp
  have nl := len _ _ _ _ hsp
  have kin : K.In s.heap := e0.mod.kin.keeps fun b o e => (e0.bs b o e).1
  have lim : s.heap.NoLimit := e0.mod.nolimit.keeps fun b o e => (e0.bs b o e).1
  refine codeAny_call_function hr.depth (kin _ _ lk) rfl S.co S.gen rfl (PySem.W.codeRec_of kin hcd) (hb _ _ _ _ (wpAny_newFunctionEnv_cells S.kind ?_ ?_))
  · rintro ⟨n, v⟩ hy
    rcases S.par n (List.of_mem_zip hy).1 with q | q
    · exact .inl q
    · exact .inr ⟨q, PySem.W.cellsFrom_some _ _ _ (.inl q)⟩
  rintro env rfl s1 x
  refine ⟨lim.keeps x.toInCall.keep, codeAny_func ?_⟩
  obtain ⟨t, ht, hq⟩ := hbody cdv A outer s H vs Q E (calm_deeper cm) (hr.deeper _) hsp
  have J0 := inv_start (CX := CX0) (f := f) (cd := cdv) (E := E) (qual := qual) S hr.hd e0 nl r x
  refine wpAny_mono (ht.nox.run [] s1 _ H _ J0 hq) ?_ fun e s' hs => hs
  intro fl s' hs
  rcases fl with _ | _ | _ | u
  · obtain ⟨σ', H', J, q⟩ := hs
    exact ⟨.non, H', J.os, J.bare, J.base, J.hok, rfl, q⟩
  · obtain ⟨_, _, _, q⟩ := hs
    exact q.elim
  · obtain ⟨_, _, _, q⟩ := hs
    exact q.elim
  · obtain ⟨v, σ', H', J, rv, q⟩ := hs
    exact ⟨v, H', J.os, J.bare, J.base, J.hok, rv, q⟩
end
section
variable {X : Cx} {k : Nat} {f : Addr} {fd : FuncData} {ps : List Str} {sp : Sp} {x : Str} {p pos : Pos} {e : Expr} {es : List Expr} {t : TA} {ds : List Value} {dvs : List V} {E : XK}
/-- f(e, ..) for such a def -/
theorem pe_callG (F : FnG X.prog X.w X.K X.mg X.base k f fd ps sp) (cm : Calm X.A) (hr : Room k X.A) (hg : Gl X x) (hm : X.mg x = some (.ref f)) (hk : PySem.W.keepIn X.K (.ref f) = true) (hb : Binds X.K fd ps [])
    (ha : PA X (e :: es) t) (hdb : (x == ("__debug__" : Str)) = false := by decide) (he : starEach (e :: es) X.env = (false, eval e X.env) :: starEach es X.env := by rfl) (hpl : (backTo pos (starEach es X.env)).any (·.1) = false := by rfl) :
    PE X (.Call (.Name x p) (e :: es) [] pos) (tCall sp [] E0 t) := by
  refine ⟨fun pins s σ H Q I h => wpAny_Call_Name_kw (ld_glob I hg hm ?_ hdb)⟩
  refine PySem.W.callWith_K (h₀ := X.base) I.ok.mod.kin hk (thn (ha.run pos pins s σ H _ I h) ?_) he hpl
  rintro us s1 ⟨vs, H1, I1, r, q⟩
  refine ⟨I1.kIn, ?_⟩
  rw [List.append_nil] at q
  have hl : us.length = ps.length := by
    rw [← r.length]
    exact F.len _ _ _ _ q
  have hb' := hb s1 us I1.kIn (by rw [List.append_nil]; exact hl)
  rw [List.append_nil] at hb'
  refine wpAny_call (codeAny_mono (F.run X.A X.stack s1 H1 ⟨us, []⟩ us vs Q E0 cm hr I1.env0 hb' r q) ?_)
  intro r2 s' hq
  rcases r2 with z | fl
  · exact hq.elim
  rcases fl with _ | _ | _ | u
  · exact hq.elim
  · exact hq.elim
  · exact hq.elim
  · exact I1.after hq
end

section
variable {P : Program} {w : World} {K : PySem.W.Frag} {mg mb : Str → Option Value} {k : Nat} {fa a : Addr} {fd : FuncData} {x : Str} {sp : Sp} {s₁ : Shared} {vs : List Value} {ns : List Int}
/-- what the law's call starts from, over an abstract heap H in which the script alone may stand -/
theorem law_from {H : Hp} (hO : Only H) (hS : SqL K H a (ns.map V.int)) (hok : HOk P w H s₁.heap) (hA : ∀ b, H b ≠ none → b = a) (hK : H a ≠ none → K.lookup a = none)
    (KX : K.In s₁.heap) (hns : s₁.heap.Ns mainGlobals mg) (hb : s₁.heap.Ns builtinsNs mb) (hbb : ∀ x : Str, x ≠ "__name__" → mb x = bootBuiltins x) (hlim : s₁.heap.NoLimit) (hg : s₁.gens = #[])
    (ha : s₁.heap.get? a = some { cls := .type "list", data := .seq vs.toArray }) (hr : Room k callerA)
    (F : ∀ base : Heap, K.In base → base.Ns mainGlobals mg → FnG P w K mg base k fa fd [x] sp) (hbind : ∀ (s : Shared) (u : Value), BindsTo s fd ⟨[u], []⟩ [(x, u)])
    (hsp : sp [.ref a] H (fun v _ => v = .bl true) fun _ _ _ => False) :
    codeAny (model P w) callerA (.call (.ref fa) ⟨[.ref a], []⟩) (fun r s' => r = .ok (.ret (.bool true)) ∧ OldK s₁.heap s'.heap ∧ s'.os = s₁.os ∧ AllBare s'.gens) s₁ := by
  have hid : ∀ {b o}, s₁.heap.get? b = some o → H b = none → (hidT s₁.heap H).get? b = some o := fun e n => hidT_get e n
  have free : ∀ {b : Addr} {o : Obj} {es : Array DictEntry} {ep : Nat}, s₁.heap.get? b = some o → o.data = .dict es ep → H b = none := by
    intro b o es ep e d
    cases q : H b with
    | none => rfl
    | some u =>
      have z := hA b (by simp [q])
      subst z
      rw [ha] at e
      cases e
      cases d
  have ns_of : ∀ {b : Addr} {m : Str → Option Value}, s₁.heap.Ns b m → (hidT s₁.heap H).Ns b m := by
    rintro b m ⟨o, es, ep, e, d, r⟩
    exact ⟨o, es, ep, hid e (free e d), d, r⟩
  have kin : K.In (hidT s₁.heap H) := by
    intro b o e
    refine hid (KX b o e) ?_
    cases q : H b with
    | none => rfl
    | some u =>
      have z := hA b (by simp [q])
      subst z
      rw [hK (by simp [q])] at e
      cases e
  have md : Mod K mg (hidT s₁.heap H) := by
    obtain ⟨mc, h1, h2⟩ := hlim
    exact ⟨kin, ns_of hns, ⟨mb, ns_of hb, hbb⟩, mc, ns_of h1, h2⟩
  have e0 : Env0 P w K mg (hidT s₁.heap H) callerA [] s₁ H := ⟨rfl, md, fun b o e => of_hidT e, Nat.le_of_eq (hidT_size _ _), trivial, fun b hb => (nomatch (show b ∈ ([] : List Addr) from hb)), hok, .of_eq hg⟩
  refine codeAny_mono ((F _ kin (ns_of hns)).run callerA [] s₁ H ⟨[.ref a], []⟩ [Value.ref a] [V.ref a] (fun v _ => v = .bl true) (fun _ _ _ => False) rfl hr e0 (hbind s₁ (.ref a)) (.cons rfl .nil) hsp) ?_
  intro r s' h
  rcases r with e | fl
  · exact h.elim
  rcases fl with _ | _ | _ | u
  · exact h.elim
  · exact h.elim
  · exact h.elim
  obtain ⟨v, H', os, bare, un, hok', r', q⟩ := h
  obtain rfl : v = .bl true := q
  obtain rfl : u = Value.bool true := r'
  refine ⟨rfl, OldK.of_keep fun b o e => ?_, os, bare⟩
  cases q : H b with
  | none => exact un.keep b o e q (fun z => (nomatch (show b ∈ ([] : List Addr) from z))) (fun z => nomatch z)
  | some u =>
    rcases hO b with z | ⟨ob, xs, z⟩
    · rw [q] at z
      cases z
    · obtain ⟨e1, _⟩ := hok b _ z
      obtain ⟨e2, _⟩ := hok' b _ (un.frzs b ob _ z)
      rw [e] at e1
      cases e1
      exact e2
theorem law_callG (KX : K.In s₁.heap) (hns : s₁.heap.Ns mainGlobals mg) (hb : s₁.heap.Ns builtinsNs mb) (hbb : ∀ x : Str, x ≠ "__name__" → mb x = bootBuiltins x) (hlim : s₁.heap.NoLimit) (hg : s₁.gens = #[])
    (ha : s₁.heap.get? a = some { cls := .type "list", data := .seq vs.toArray }) (hi : IntsAre vs ns) (hl : ns.length ≤ sizeLine) (hr : Room k callerA)
    (F : ∀ base : Heap, K.In base → base.Ns mainGlobals mg → FnG P w K mg base k fa fd [x] sp) (hbind : ∀ (s : Shared) (u : Value), BindsTo s fd ⟨[u], []⟩ [(x, u)])
    (hsp : ∀ H : Hp, Only H → SqL K H a (ns.map V.int) → sp [.ref a] H (fun v _ => v = .bl true) fun _ _ _ => False) :
    codeAny (model P w) callerA (.call (.ref fa) ⟨[.ref a], []⟩) (fun r s' => r = .ok (.ret (.bool true)) ∧ OldK s₁.heap s'.heap ∧ s'.os = s₁.os ∧ AllBare s'.gens) s₁ := by
  have rv := vals_ints hi
  have nv := hi.length
  cases hk : K.lookup a with
  | some o =>
    have e := KX a o hk
    rw [ha] at e
    cases e
    have S : SqL K (fun _ => none) a (ns.map V.int) := .inr ⟨_, vs.toArray, _, hk, rfl, rfl, rfl, by rw [List.size_toArray, nv]; exact hl, by simpa using rv⟩
    have O : Only (fun _ => none) := fun _ => .inl rfl
    exact law_from (H := fun _ => none) O S (fun b u z => (by cases (show (none : Option HO) = some u from z))) (fun b z => absurd rfl z) (fun z => absurd rfl z) KX hns hb hbb hlim hg ha hr F hbind (hsp _ O S)
  | none =>
    let ob : Obj := { cls := .type "list", data := .seq vs.toArray }
    let H : Hp := fun b => if b = a then some (.frz ob (.lst (ns.map V.int))) else none
    have at_ : H a = some (.frz ob (.lst (ns.map V.int))) := if_pos rfl
    have off : ∀ b, b ≠ a → H b = none := fun b h => if_neg h
    have S : SqL K H a (ns.map V.int) := .inl (.inr ⟨ob, at_⟩)
    have O : Only H := fun b => by
      by_cases h : b = a
      · subst h
        exact .inr ⟨_, _, at_⟩
      · exact .inl (off b h)
    refine law_from O S (fun b u z => ?_) (fun b z => ?_) (fun _ => hk) KX hns hb hbb hlim hg ha hr F hbind (hsp _ O S)
    · by_cases h : b = a
      · subst h
        rw [at_] at z
        cases z
        exact ⟨ha, by rw [List.length_map]; exact hl, vs, _, rv, ha⟩
      · rw [off b h] at z
        cases z
    · by_cases h : b = a
      · exact h
      · exact absurd (off b h) z
end
/-- as walk_of, for such a law -/
theorem walk_ofG {l : PySem.W.OpenLaw} {n k : Nat} {q : Program} {loose : List Str} {XP : (Str → Option Value) → Heap → Prop} {YP : World → Heap → Prop} {d : DefRec} {K : Params → PySem.W.Frag} {sp : World → Sp} {x : Str}
    (hn : l.most = some n) (hn2 : n ≤ sizeLine) (hdf : d.params.defaults = []) (hr : Room k callerA) (hY : ∀ (w : World) (h : Heap), YP w h → (K w.params).In h)
    (F : ∀ (w : World) (mg : Str → Option Value) (fa : Addr) (h : Heap), (K w.params).In h → h.Ns mainGlobals mg → mg d.name = some (.ref fa) →
      ∃ fd : FuncData, (∀ (s : Shared) (u : Value), BindsTo s fd ⟨[u], []⟩ [(x, u)]) ∧ ∀ base : Heap, (K w.params).In base → base.Ns mainGlobals mg → FnG l.prog w (K w.params) mg base k fa fd [x] (sp w))
    (hsp : ∀ (w : World) (H : Hp) (a : Addr) (ns : List Int), ns.length ≤ n → Only H → SqL (K w.params) H a (ns.map V.int) → sp w [.ref a] H (fun v _ => v = .bl true) fun _ _ _ => False) :
    PySem.W.WalkO q loose XP YP l.row.toRowW d [] (fun f vs => PySem.call f vs) := by
  refine Att.attach_call hn hdf ?_
  intro w s₀ s₁ mg mb fa o pm cd doc a vs ns G Y ho hd hcd hmg hobj hints hlen hg
  have KX := hY w _ Y
  obtain ⟨fd, hb, hF⟩ := F w mg fa _ KX G.T.g hmg
  exact law_callG KX G.T.g G.T.b G.T.builtins G.T.nolimit hg hobj hints (Nat.le_trans hlen hn2) hr hF hb fun H hO hS => hsp w H a ns hlen hO hS
end Kx
/-! The text by places, and what its top leaves. Made by mkbase.py. -/
namespace K04
open PySem PySem.Spec PyProof.Rows L2 Kx
def top (i : Nat) : Stmt := PySem.Challenge.pw_shownpart_k04_texts_of_terms.main.body.getD i (.Pass ⟨0, 0, 0, 0⟩)
abbrev s_written : Stmt := top 1
abbrev N_written : List Str := ["term", "words", "waiting", "part", "below"]
theorem sc_written : FnScope N_written ["term"] (defScope s_written) := ⟨rfl, rfl, rfl, by decide +kernel, rfl, by decide +kernel, by decide +kernel⟩
abbrev s_is_name : Stmt := top 9
abbrev N_is_name : List Str := ["value"]
theorem sc_is_name : FnScope N_is_name ["value"] (defScope s_is_name) := ⟨rfl, rfl, rfl, by decide +kernel, rfl, by decide +kernel, by decide +kernel⟩
abbrev s_is_term : Stmt := top 10
abbrev N_is_term : List Str := ["value"]
theorem sc_is_term : FnScope N_is_term ["value"] (defScope s_is_term) := ⟨rfl, rfl, rfl, by decide +kernel, rfl, by decide +kernel, by decide +kernel⟩
abbrev s_text_of : Stmt := top 11
abbrev N_text_of : List Str := ["term"]
theorem sc_text_of : FnScope N_text_of ["term"] (defScope s_text_of) := ⟨rfl, rfl, rfl, by decide +kernel, rfl, by decide +kernel, by decide +kernel⟩
abbrev s_read_term : Stmt := top 12
abbrev N_read_term : List Str := ["text", "result"]
theorem sc_read_term : FnScope N_read_term ["text"] (defScope s_read_term) := ⟨rfl, rfl, rfl, by decide +kernel, rfl, by decide +kernel, by decide +kernel⟩
abbrev s_check_term : Stmt := top 13
abbrev N_check_term : List Str := ["value"]
theorem sc_check_term : FnScope N_check_term ["value"] (defScope s_check_term) := ⟨rfl, rfl, rfl, by decide +kernel, rfl, by decide +kernel, by decide +kernel⟩
abbrev s_joint_places : Stmt := top 14
abbrev N_joint_places : List Str := ["values", "places", "waiting", "part", "many"]
theorem sc_joint_places : FnScope N_joint_places ["values"] (defScope s_joint_places) := ⟨rfl, rfl, rfl, by decide +kernel, rfl, by decide +kernel, by decide +kernel⟩
abbrev s_has_form : Stmt := top 15
abbrev N_has_form : List Str := ["value"]
theorem sc_has_form : FnScope N_has_form ["value"] (defScope s_has_form) := ⟨rfl, rfl, rfl, by decide +kernel, rfl, by decide +kernel, by decide +kernel⟩
abbrev s_words_in : Stmt := top 16
abbrev N_words_in : List Str := ["text", "letters"]
theorem sc_words_in : FnScope N_words_in ["text"] (defScope s_words_in) := ⟨rfl, rfl, rfl, by decide +kernel, rfl, by decide +kernel, by decide +kernel⟩
abbrev s_parsed : Stmt := top 17
abbrev N_parsed : List Str := ["words", "heads", "rows", "last", "word", "ended", "row"]
theorem sc_parsed : FnScope N_parsed ["words"] (defScope s_parsed) := ⟨rfl, rfl, rfl, by decide +kernel, rfl, by decide +kernel, by decide +kernel⟩
abbrev s__law_dice : Stmt := top 19
abbrev N__law_dice : List Str := ["script", "spot", "cell", "great", "mixed"]
theorem sc__law_dice : FnScope N__law_dice ["script", "spot"] (defScope s__law_dice) := ⟨rfl, rfl, rfl, by decide +kernel, rfl, by decide +kernel, by decide +kernel⟩
abbrev s__law_roll : Stmt := top 20
abbrev N__law_roll : List Str := ["dice", "many", "found", "one", "two"]
theorem sc__law_roll : FnScope N__law_roll ["dice", "many"] (defScope s__law_roll) := ⟨rfl, rfl, rfl, by decide +kernel, rfl, by decide +kernel, by decide +kernel⟩
abbrev s__law_pick : Stmt := top 21
abbrev N__law_pick : List Str := ["dice", "items"]
theorem sc__law_pick : FnScope N__law_pick ["dice", "items"] (defScope s__law_pick) := ⟨rfl, rfl, rfl, by decide +kernel, rfl, by decide +kernel, by decide +kernel⟩
abbrev s__law_mixed : Stmt := top 22
abbrev N__law_mixed : List Str := ["dice", "items", "left", "found"]
theorem sc__law_mixed : FnScope N__law_mixed ["dice", "items"] (defScope s__law_mixed) := ⟨rfl, rfl, rfl, by decide +kernel, rfl, by decide +kernel, by decide +kernel⟩
abbrev s__law_text : Stmt := top 23
abbrev N__law_text : List Str := ["term", "part"]
theorem sc__law_text : FnScope N__law_text ["term"] (defScope s__law_text) := ⟨rfl, rfl, rfl, by decide +kernel, rfl, by decide +kernel, by decide +kernel⟩
abbrev s__law_below : Stmt := top 24
abbrev N__law_below : List Str := ["term", "found", "part"]
theorem sc__law_below : FnScope N__law_below ["term"] (defScope s__law_below) := ⟨rfl, rfl, rfl, by decide +kernel, rfl, by decide +kernel, by decide +kernel⟩
abbrev s__law_names : Stmt := top 25
abbrev N__law_names : List Str := ["dice", "few", "pools", "cells", "name", "found"]
theorem sc__law_names : FnScope N__law_names ["dice", "few"] (defScope s__law_names) := ⟨rfl, rfl, rfl, by decide +kernel, rfl, by decide +kernel, by decide +kernel⟩
abbrev s__law_term : Stmt := top 26
abbrev N__law_term : List Str := ["dice", "names", "deep", "some", "name", "places", "row", "turn"]
theorem sc__law_term : FnScope N__law_term ["dice", "names", "deep"] (defScope s__law_term) := ⟨rfl, rfl, rfl, by decide +kernel, rfl, by decide +kernel, by decide +kernel⟩
abbrev s__law_chain : Stmt := top 27
abbrev N__law_chain : List Str := ["total", "term", "turn"]
theorem sc__law_chain : FnScope N__law_chain ["total"] (defScope s__law_chain) := ⟨rfl, rfl, rfl, by decide +kernel, rfl, by decide +kernel, by decide +kernel⟩
abbrev s__law_doubled : Stmt := top 28
abbrev N__law_doubled : List Str := ["total", "term", "turn"]
theorem sc__law_doubled : FnScope N__law_doubled ["total"] (defScope s__law_doubled) := ⟨rfl, rfl, rfl, by decide +kernel, rfl, by decide +kernel, by decide +kernel⟩
abbrev s__law_name_end : Stmt := top 29
abbrev N__law_name_end : List Str := ["text", "at", "end"]
theorem sc__law_name_end : FnScope N__law_name_end ["text", "at"] (defScope s__law_name_end) := ⟨rfl, rfl, rfl, by decide +kernel, rfl, by decide +kernel, by decide +kernel⟩
abbrev s__law_read_at : Stmt := top 30
abbrev N__law_read_at : List Str := ["text", "at", "end", "parts", "word", "part"]
theorem sc__law_read_at : FnScope N__law_read_at ["text", "at"] (defScope s__law_read_at) := ⟨rfl, rfl, rfl, by decide +kernel, rfl, by decide +kernel, by decide +kernel⟩
abbrev s__law_read : Stmt := top 31
abbrev N__law_read : List Str := ["text", "term", "end", "rows", "part", "row"]
theorem sc__law_read : FnScope N__law_read ["text"] (defScope s__law_read) := ⟨rfl, rfl, rfl, by decide +kernel, rfl, by decide +kernel, by decide +kernel⟩
abbrev s__law_told : Stmt := top 32
abbrev N__law_told : List Str := ["text"]
theorem sc__law_told : FnScope N__law_told ["text"] (defScope s__law_told) := ⟨rfl, rfl, rfl, by decide +kernel, rfl, by decide +kernel, by decide +kernel⟩
abbrev s__law_bent : Stmt := top 33
abbrev N__law_bent : List Str := ["dice", "text", "at", "way", "signs", "sign", "turned"]
theorem sc__law_bent : FnScope N__law_bent ["dice", "text"] (defScope s__law_bent) := ⟨rfl, rfl, rfl, by decide +kernel, rfl, by decide +kernel, by decide +kernel⟩
abbrev s_law : Stmt := top 34
abbrev N_law : List Str := ["script", "spot", "dice", "names", "turn", "term", "text", "some", "odd", "texts", "one", "again"]
theorem sc_law : FnScope N_law ["script"] (defScope s_law) := ⟨rfl, rfl, rfl, by decide +kernel, rfl, by decide +kernel, by decide +kernel⟩
/-- what the top leaves -/
structure Tx (K : PySem.W.Frag) (mg : Str → Option Value) where
  b_abs : mg "abs" = none
  b_int : mg "int" = none
  b_isinstance : mg "isinstance" = none
  b_len : mg "len" = none
  b_list : mg "list" = none
  b_max : mg "max" = none
  b_min : mg "min" = none
  b_range : mg "range" = none
  b_set : mg "set" = none
  b_sorted : mg "sorted" = none
  b_str : mg "str" = none
  b_tuple : mg "tuple" = none
  CParseError : Addr
  gParseError : mg "ParseError" = some (.ref CParseError)
  xParseError : PySem.W.excIn K CParseError [.type "ValueError", .type "Exception", .type "BaseException", .type "object"] "ValueError.__new__" = true
  kParseError : PySem.W.keepIn K (.ref CParseError) = true
  bParseError : PySem.W.subIn K (.ref CParseError) (.type "BaseException") = some true
  tParseError : PySem.W.typeIn K (.ref CParseError) = some (.type "type")
  eParseError : PySem.W.exmOne K (.ref CParseError) (.ref CParseError) = some true
  c_MAX_PLACES : ∃ t, mg "MAX_PLACES" = some (.int 3 t)
  c_LONGEST_NAME : ∃ t, mg "LONGEST_NAME" = some (.int 8 t)
  awritten : Addr
  dwritten : FuncData
  fwritten : Fun K "written" "written" s_written awritten dwritten
  nwritten : Binds K dwritten ["term"] []
  gwritten : mg "written" = some (.ref awritten)
  ais_name : Addr
  dis_name : FuncData
  fis_name : Fun K "is_name" "is_name" s_is_name ais_name dis_name
  nis_name : Binds K dis_name ["value"] []
  gis_name : mg "is_name" = some (.ref ais_name)
  ais_term : Addr
  dis_term : FuncData
  fis_term : Fun K "is_term" "is_term" s_is_term ais_term dis_term
  nis_term : Binds K dis_term ["value"] []
  gis_term : mg "is_term" = some (.ref ais_term)
  atext_of : Addr
  dtext_of : FuncData
  ftext_of : Fun K "text_of" "text_of" s_text_of atext_of dtext_of
  ntext_of : Binds K dtext_of ["term"] []
  gtext_of : mg "text_of" = some (.ref atext_of)
  aread_term : Addr
  dread_term : FuncData
  fread_term : Fun K "read_term" "read_term" s_read_term aread_term dread_term
  nread_term : Binds K dread_term ["text"] []
  gread_term : mg "read_term" = some (.ref aread_term)
  acheck_term : Addr
  dcheck_term : FuncData
  fcheck_term : Fun K "check_term" "check_term" s_check_term acheck_term dcheck_term
  ncheck_term : Binds K dcheck_term ["value"] []
  gcheck_term : mg "check_term" = some (.ref acheck_term)
  ajoint_places : Addr
  djoint_places : FuncData
  fjoint_places : Fun K "joint_places" "joint_places" s_joint_places ajoint_places djoint_places
  njoint_places : Binds K djoint_places ["values"] []
  gjoint_places : mg "joint_places" = some (.ref ajoint_places)
  ahas_form : Addr
  dhas_form : FuncData
  fhas_form : Fun K "has_form" "has_form" s_has_form ahas_form dhas_form
  nhas_form : Binds K dhas_form ["value"] []
  ghas_form : mg "has_form" = some (.ref ahas_form)
  awords_in : Addr
  dwords_in : FuncData
  fwords_in : Fun K "words_in" "words_in" s_words_in awords_in dwords_in
  nwords_in : Binds K dwords_in ["text"] []
  gwords_in : mg "words_in" = some (.ref awords_in)
  aparsed : Addr
  dparsed : FuncData
  fparsed : Fun K "parsed" "parsed" s_parsed aparsed dparsed
  nparsed : Binds K dparsed ["words"] []
  gparsed : mg "parsed" = some (.ref aparsed)
  a_law_dice : Addr
  d_law_dice : FuncData
  f_law_dice : Fun K "_law_dice" "_law_dice" s__law_dice a_law_dice d_law_dice
  n_law_dice : Binds K d_law_dice ["script", "spot"] []
  g_law_dice : mg "_law_dice" = some (.ref a_law_dice)
  a_law_roll : Addr
  d_law_roll : FuncData
  f_law_roll : Fun K "_law_roll" "_law_roll" s__law_roll a_law_roll d_law_roll
  n_law_roll : Binds K d_law_roll ["dice", "many"] []
  g_law_roll : mg "_law_roll" = some (.ref a_law_roll)
  a_law_pick : Addr
  d_law_pick : FuncData
  f_law_pick : Fun K "_law_pick" "_law_pick" s__law_pick a_law_pick d_law_pick
  n_law_pick : Binds K d_law_pick ["dice", "items"] []
  g_law_pick : mg "_law_pick" = some (.ref a_law_pick)
  a_law_mixed : Addr
  d_law_mixed : FuncData
  f_law_mixed : Fun K "_law_mixed" "_law_mixed" s__law_mixed a_law_mixed d_law_mixed
  n_law_mixed : Binds K d_law_mixed ["dice", "items"] []
  g_law_mixed : mg "_law_mixed" = some (.ref a_law_mixed)
  a_law_text : Addr
  d_law_text : FuncData
  f_law_text : Fun K "_law_text" "_law_text" s__law_text a_law_text d_law_text
  n_law_text : Binds K d_law_text ["term"] []
  g_law_text : mg "_law_text" = some (.ref a_law_text)
  a_law_below : Addr
  d_law_below : FuncData
  f_law_below : Fun K "_law_below" "_law_below" s__law_below a_law_below d_law_below
  n_law_below : Binds K d_law_below ["term"] []
  g_law_below : mg "_law_below" = some (.ref a_law_below)
  a_law_names : Addr
  d_law_names : FuncData
  f_law_names : Fun K "_law_names" "_law_names" s__law_names a_law_names d_law_names
  n_law_names : Binds K d_law_names ["dice", "few"] []
  g_law_names : mg "_law_names" = some (.ref a_law_names)
  a_law_term : Addr
  d_law_term : FuncData
  f_law_term : Fun K "_law_term" "_law_term" s__law_term a_law_term d_law_term
  n_law_term : Binds K d_law_term ["dice", "names", "deep"] []
  g_law_term : mg "_law_term" = some (.ref a_law_term)
  a_law_chain : Addr
  d_law_chain : FuncData
  f_law_chain : Fun K "_law_chain" "_law_chain" s__law_chain a_law_chain d_law_chain
  n_law_chain : Binds K d_law_chain ["total"] []
  g_law_chain : mg "_law_chain" = some (.ref a_law_chain)
  a_law_doubled : Addr
  d_law_doubled : FuncData
  f_law_doubled : Fun K "_law_doubled" "_law_doubled" s__law_doubled a_law_doubled d_law_doubled
  n_law_doubled : Binds K d_law_doubled ["total"] []
  g_law_doubled : mg "_law_doubled" = some (.ref a_law_doubled)
  a_law_name_end : Addr
  d_law_name_end : FuncData
  f_law_name_end : Fun K "_law_name_end" "_law_name_end" s__law_name_end a_law_name_end d_law_name_end
  n_law_name_end : Binds K d_law_name_end ["text", "at"] []
  g_law_name_end : mg "_law_name_end" = some (.ref a_law_name_end)
  a_law_read_at : Addr
  d_law_read_at : FuncData
  f_law_read_at : Fun K "_law_read_at" "_law_read_at" s__law_read_at a_law_read_at d_law_read_at
  n_law_read_at : Binds K d_law_read_at ["text", "at"] []
  g_law_read_at : mg "_law_read_at" = some (.ref a_law_read_at)
  a_law_read : Addr
  d_law_read : FuncData
  f_law_read : Fun K "_law_read" "_law_read" s__law_read a_law_read d_law_read
  n_law_read : Binds K d_law_read ["text"] []
  g_law_read : mg "_law_read" = some (.ref a_law_read)
  a_law_told : Addr
  d_law_told : FuncData
  f_law_told : Fun K "_law_told" "_law_told" s__law_told a_law_told d_law_told
  n_law_told : Binds K d_law_told ["text"] []
  g_law_told : mg "_law_told" = some (.ref a_law_told)
  a_law_bent : Addr
  d_law_bent : FuncData
  f_law_bent : Fun K "_law_bent" "_law_bent" s__law_bent a_law_bent d_law_bent
  n_law_bent : Binds K d_law_bent ["dice", "text"] []
  g_law_bent : mg "_law_bent" = some (.ref a_law_bent)
  alaw : Addr
  dlaw : FuncData
  flaw : Fun K "law" "law" s_law alaw dlaw
  nlaw : Binds K dlaw ["script"] []
  glaw : mg "law" = some (.ref alaw)
end K04
/-! Data at addresses, its text, its order. -/
namespace Kx
open PySem PySem.Spec PyProof.Rows L2
/-- a key as data -/
def keyD : Key → PyData
  | .inl i => .int i
  | .inr x => .str x
/-- the pairs of a dict as data; the values are flat -/
inductive KvD : List (Key × V) → List (PyData × PyData) → Prop
  | nil : KvD [] []
  | int {k : Key} {i : Int} {r : List (Key × V)} {ds : List (PyData × PyData)} : KvD r ds → KvD ((k, .int i) :: r) ((keyD k, .int i) :: ds)
mutual
/-- v stands for the data d: as Dp, and dicts -/
inductive Dx (K : PySem.W.Frag) (H : Hp) : V → PyData → Prop
  | non : Dx K H .non .none
  | bl (b : Bool) : Dx K H (.bl b) (.bool b)
  | int (i : Int) : Dx K H (.int i) (.int i)
  | str (x : Str) : Dx K H (.str x) (.str x)
  | lst {a : Addr} {xs : List V} {ds : List PyData} : H a = some (.lst xs) → DxAll K H xs ds → Dx K H (.ref a) (.list ds)
  | tup {a : Addr} {xs : List V} {ds : List PyData} : H a = some (.tup xs) → DxAll K H xs ds → Dx K H (.ref a) (.tuple ds)
  | dic {a : Addr} {kvs : List (Key × V)} {ds : List (PyData × PyData)} : H a = some (.dK kvs) → KvD kvs ds → Dx K H (.ref a) (.dict ds)
inductive DxAll (K : PySem.W.Frag) (H : Hp) : List V → List PyData → Prop
  | nil : DxAll K H [] []
  | cons {v : V} {vs : List V} {d : PyData} {ds : List PyData} : Dx K H v d → DxAll K H vs ds → DxAll K H (v :: vs) (d :: ds)
end
section
variable {K : PySem.W.Frag} {H H' : Hp}
theorem Same.tup {a : Addr} {xs : List V} (e : Same H H') (h : SqT K H a xs) : SqT K H' a xs := by
  rcases h with (h | ⟨o, h⟩) | h
  · exact .inl (.inl (e _ _ h))
  · exact .inl (.inr ⟨o, e _ _ h⟩)
  · exact .inr h
mutual
theorem Dx.up (e : Same H H') : ∀ {d : PyData} {v : V}, Dx K H v d → Dx K H' v d
  | .none, _, h => by cases h; exact .non
  | .bool b, _, h => by cases h; exact .bl b
  | .int i, _, h => by cases h; exact .int i
  | .str x, _, h => by cases h; exact .str x
  | .list ds, _, h => by cases h with | lst a b => exact .lst (e _ _ a) (DxAll.up e b)
  | .tuple ds, _, h => by cases h with | tup a b => exact .tup (e _ _ a) (DxAll.up e b)
  | .dict ds, _, h => by cases h with | dic a b => exact .dic (e _ _ a) b
theorem DxAll.up (e : Same H H') : ∀ {ds : List PyData} {vs : List V}, DxAll K H vs ds → DxAll K H' vs ds
  | [], _, h => by cases h; exact .nil
  | d :: ds, _, h => by cases h with | cons a b => exact .cons (Dx.up e a) (DxAll.up e b)
end
mutual
/-- data without dicts -/
theorem Dx.dp : ∀ {d : PyData} {v : V}, d.hasDict = false → Dx K H v d → Dp K H v d
  | .none, _, _, h => by cases h; exact .non
  | .bool b, _, _, h => by cases h; exact .bl b
  | .int i, _, _, h => by cases h; exact .int i
  | .str x, _, _, h => by cases h; exact .str x
  | .list ds, _, z, h => by cases h with | lst a b => exact .lst (.inl (.inl a)) (DxAll.dp (by simpa [PyData.hasDict] using z) b)
  | .tuple ds, _, z, h => by cases h with | tup a b => exact .tup (.inl (.inl a)) (DxAll.dp (by simpa [PyData.hasDict] using z) b)
  | .dict ds, _, z, h => by simp [PyData.hasDict] at z
theorem DxAll.dp : ∀ {ds : List PyData} {vs : List V}, PyData.hasDictAll ds = false → DxAll K H vs ds → DpAll K H vs ds
  | [], _, _, h => by cases h; exact .nil
  | d :: ds, _, z, h => by
    cases h with
    | cons a b =>
      have z' : d.hasDict = false ∧ PyData.hasDictAll ds = false := by simpa [PyData.hasDictAll] using z
      exact .cons (Dx.dp z'.1 a) (DxAll.dp z'.2 b)
end
theorem DxAll.length : ∀ {vs : List V} {ds : List PyData}, DxAll K H vs ds → vs.length = ds.length
  | _, _, .nil => rfl
  | _, _, .cons _ t => by rw [List.length_cons, List.length_cons, DxAll.length t]
theorem DxAll.append : ∀ {vs us : List V} {ds es : List PyData}, DxAll K H vs ds → DxAll K H us es → DxAll K H (vs ++ us) (ds ++ es)
  | _, _, _, _, .nil, h => h
  | _, _, _, _, .cons a t, h => .cons a (DxAll.append t h)
theorem DxAll.get : ∀ {vs : List V} {ds : List PyData} {i : Nat} {d : PyData}, DxAll K H vs ds → ds[i]? = some d → ∃ v, vs[i]? = some v ∧ Dx K H v d
  | _, _, _, _, .nil, h => by simp at h
  | _, _, 0, _, .cons a _, h => by
    simp at h
    subst h
    exact ⟨_, rfl, a⟩
  | _, _, i + 1, _, .cons _ t, h => by
    obtain ⟨v, e, x⟩ := DxAll.get (i := i) t (by simpa using h)
    exact ⟨v, by simpa using e, x⟩
theorem DxAll.take : ∀ {vs : List V} {ds : List PyData} (i : Nat), DxAll K H vs ds → DxAll K H (vs.take i) (ds.take i)
  | _, _, 0, _ => .nil
  | _, _, _ + 1, .nil => .nil
  | _, _, i + 1, .cons a t => .cons a (DxAll.take i t)
theorem DxAll.drop : ∀ {vs : List V} {ds : List PyData} (i : Nat), DxAll K H vs ds → DxAll K H (vs.drop i) (ds.drop i)
  | _, _, 0, h => h
  | _, _, _ + 1, .nil => .nil
  | _, _, i + 1, .cons _ t => DxAll.drop i t
end
/-- the class of data -/
def tyD : PyData → String
  | .none => "NoneType"
  | .bool _ => "bool"
  | .int _ => "int"
  | .str _ => "str"
  | .list _ => "list"
  | .tuple _ => "tuple"
  | .dict _ => "dict"
theorem Dx.ty {K : PySem.W.Frag} {H : Hp} {d : PyData} {v : V} (h : Dx K H v d) : TyX K H v (.type (tyD d)) := by
  cases h with
  | non => exact .base .non
  | bl b => exact .base (.bl b)
  | int i => exact .base (.int i)
  | str x => exact .base (.str x)
  | lst a _ => exact .base (.lst a)
  | tup a _ => exact .base (.tup a)
  | dic a _ => exact .base (.dK a)
mutual
/-- no list within -/
def noL : PyData → Bool
  | .list _ => false
  | .tuple ds => noLs ds
  | _ => true
def noLs : List PyData → Bool
  | [] => true
  | d :: ds => noL d && noLs ds
end
section
variable {X : Cx} {pins : List (Addr × Obj)} {σ : L2.St} {H : Hp} {s : Shared}
theorem kv_reads {P : Program} {w : World} {h : Heap} : ∀ {kvs : List (Key × V)} {ds : List (PyData × PyData)} {vs : List (Key × Value)} {es : List DictEntry}, KvD kvs ds → KV kvs vs → Pairs (mixKind P w) es vs →
    ReadsAll h (es.map (·.key)) (ds.map (·.1)) [] ∧ ReadsAll h (es.map (·.val)) (ds.map (·.2)) []
  | _, _, _, _, .nil, r, p => by
    cases r
    cases p
    exact ⟨.nil, .nil⟩
  | _, _, _, _, .int (k := k) (i := i) t, r, p => by
    cases r with
    | cons r0 rt =>
      cases p with
      | cons p1 p2 pt =>
        obtain ⟨a, b⟩ := kv_reads (h := h) t rt pt
        obtain ⟨r1, tk, r2⟩ := r0
        refine ⟨ReadsAll.cons (as := []) (bs := []) ?_ a, ReadsAll.cons (as := []) (bs := []) ?_ b⟩
        · rw [← r1] at p1
          rcases keyIs_shape p1 with ⟨j, u, rfl, ee⟩ | ⟨x, u, rfl, ee⟩
          · dsimp only; rw [ee]; exact Reads.int j u
          · dsimp only; rw [ee]; exact Reads.str x u
        · dsimp only
          rw [p2, r2]
          exact Reads.int i tk
mutual
theorem Dx.reads (I : Inv X pins σ H s) : ∀ (d : PyData) (v : V) (u : Value), Dx X.K H v d → RelV v u → ∃ as, Reads s.heap u d as ∧ (noL d = true → sysModules ∉ as)
  | .none, _, _, h, r => by
    cases h
    cases r
    exact ⟨_, Reads.none, fun _ => by simp⟩
  | .bool b, _, _, h, r => by
    cases h
    cases r
    exact ⟨_, Reads.bool b, fun _ => by simp⟩
  | .int i, _, _, h, r => by
    cases h
    obtain ⟨t, rfl⟩ := r
    exact ⟨_, Reads.int i t, fun _ => by simp⟩
  | .str x, _, _, h, r => by
    cases h
    obtain ⟨t, rfl⟩ := r
    exact ⟨_, Reads.str x t, fun _ => by simp⟩
  | .list ds, _, _, h, r => by
    cases h with
    | lst hs ha =>
      cases r
      obtain ⟨its, rv, ⟨o, n, ho, hc, _, hd⟩, _⟩ := I.list (SqL.of hs)
      obtain ⟨as, hr, _⟩ := DxAll.reads I ds _ its ha rv
      exact ⟨_, Reads.list ho hc hd hr, fun z => by simp [noL] at z⟩
  | .tuple ds, _, _, h, r => by
    cases h with
    | tup hs ha =>
      cases r
      obtain ⟨its, rv, ⟨o, ho, hc, n, hd⟩, _⟩ := I.tuple (SqT.of hs)
      obtain ⟨as, hr, z⟩ := DxAll.reads I ds _ its ha rv
      exact ⟨_, Reads.tuple ho hc hd hr, fun q => z (by simpa [noL] using q)⟩
  | .dict ds, _, _, h, r => by
    cases h with
    | dic hs ha =>
      cases r
      obtain ⟨_, ns, vs, rv, o, es, ep, h1, h2, h3, h4, h5, h6⟩ := I.hok _ _ hs
      obtain ⟨q1, q2⟩ := kv_reads (h := s.heap) ha rv h5
      refine ⟨_, Reads.dict h1 h2.1 h3 q1 q2, fun _ => ?_⟩
      have ne : ¬ _ = sysModules := beq_eq_false_iff_ne.mp ns
      simp only [List.append_nil, List.mem_singleton]
      exact fun e => ne e.symm
theorem DxAll.reads (I : Inv X pins σ H s) : ∀ (ds : List PyData) (vs : List V) (us : List Value), DxAll X.K H vs ds → Vals vs us → ∃ as, ReadsAll s.heap us ds as ∧ (noLs ds = true → sysModules ∉ as)
  | [], _, _, h, r => by
    cases h
    cases r
    exact ⟨_, ReadsAll.nil, fun _ => by simp⟩
  | d :: ds, _, _, h, r => by
    cases h with
    | cons h1 h2 =>
      cases r with
      | cons r1 r2 =>
        obtain ⟨as, q1, z1⟩ := Dx.reads I d _ _ h1 r1
        obtain ⟨bs, q2, z2⟩ := DxAll.reads I ds _ _ h2 r2
        refine ⟨_, ReadsAll.cons q1 q2, fun z => ?_⟩
        have z' : noL d = true ∧ noLs ds = true := by simpa [noLs] using z
        simp only [List.mem_append, not_or]
        exact ⟨z1 z'.1, z2 z'.2⟩
end
end
section
variable {X : Cx}
/-- repr(x) of data, where nothing around shows itself -/
def rRepr (K : PySem.W.Frag) : List V → Hp → VK → Prop := fun xs H Q => ∃ x d, xs = [x] ∧ Dx K H x d ∧ d.showable = true ∧ (d.hasDict = true → noL d = true) ∧ d.depth ≤ 60 ∧ d.shown.length + 64 ≤ sizeLine ∧ Q (.str d.shown) H
theorem cr_repr (cm : Calm X.A) (hu : X.A.units + 64 < cLine) : CallR X (.builtin "repr") (rRepr X.K) := by
  intro pins s σ H xs us Q I rv h
  obtain ⟨x, d, rfl, hx, sh, hd, dp, sz, q⟩ := h
  obtain ⟨u, rfl, ru⟩ := rv.one
  obtain ⟨as, rd, ns⟩ := Dx.reads I d x u hx ru
  cases rd with
  | none => exact PySem.P.repr_of_none ⟨.str _, H, I.tok _, ⟨_, rfl⟩, q⟩
  | bool b => exact PySem.P.repr_of_bool ⟨.str _, H, I.tok _, ⟨_, rfl⟩, by simpa [PyData.shown] using q⟩
  | int i t => exact PySem.P.repr_of_int (by simpa [PyData.showable] using sh) ⟨.str _, H, I.tok _, ⟨_, rfl⟩, q⟩
  | str z t => exact PySem.P.repr_of_str ⟨.str _, H, I.tok _, ⟨_, rfl⟩, q⟩ (Nat.le_trans (Nat.le_add_right _ 64) (by simpa [PyData.shown] using sz))
  | list h1 h2 h3 h4 =>
    exact repr_of_reads' (.list h1 h2 h3 h4) sh (fun z => ns (hd z)) cm (by omega) (fun _ _ e => e) (fun h' u tk k => ⟨.str _, H, I.kept k, ⟨_, rfl⟩, q⟩) (by omega)
  | tuple h1 h2 h3 h4 =>
    exact repr_of_reads' (.tuple h1 h2 h3 h4) sh (fun z => ns (hd z)) cm (by omega) (fun _ _ e => e) (fun h' u tk k => ⟨.str _, H, I.kept k, ⟨_, rfl⟩, q⟩) (by omega)
  | dict h1 h2 h3 h4 h5 =>
    exact repr_of_reads' (.dict h1 h2 h3 h4 h5) sh (fun z => ns (hd z)) cm (by omega) (fun _ _ e => e) (fun h' u tk k => ⟨.str _, H, I.kept k, ⟨_, rfl⟩, q⟩) (by omega)
/-- sorted(xs), by the data of the items -/
abbrev Item := V × PyData
def rSortD (K : PySem.W.Frag) : List V → Hp → VK → Prop := fun xs H Q => ∃ (a : Addr) (zs : List Item), xs = [.ref a] ∧ SqL K H a (zs.map Prod.fst) ∧ (∀ p, p ∈ zs → Dp K H p.1 p.2) ∧ PySem.W.AllAlike (zs.map Prod.snd) ∧ PySem.W.Sortable (zs.map Prod.snd) ∧
  zs.length ≤ sizeLine ∧ (∀ p, p ∈ zs → p.2.depth ≤ 60) ∧ ∀ p, H p = none → Q (.ref p) (upd H p (.lst ((zs.mergeSort (PySem.W.dataLe false Prod.snd)).map Prod.fst)))
theorem cr_sortedD (hu : X.A.units + 64 < cLine) : CallR X (.builtin "sorted") (rSortD X.K) := by
  intro pins s σ H xs us Q I rv h
  obtain ⟨a, zs, rfl, hl, hz, al, so, sz, dp, q⟩ := h
  obtain ⟨u, rfl, ru⟩ := rv.one
  cases ru
  obtain ⟨its, r, pl, nl⟩ := I.list hl
  have each : ∀ (zs : List Item) (its : List Value), Vals (zs.map Prod.fst) its → (∀ p, p ∈ zs → Dp X.K H p.1 p.2) → PySem.W.EachIs (fun u (p : Item) => RelV p.1 u ∧ ∃ as, Reads s.heap u p.2 as) its zs := by
    intro zs
    induction zs with
    | nil =>
      intro its r _
      cases r
      exact .nil
    | cons p zs ih =>
      intro its r hz
      cases r with
      | cons r1 rt => exact .cons ⟨r1, Dp.reads I _ _ _ (hz p List.mem_cons_self) r1⟩ (ih _ rt fun q hq => hz q (List.mem_cons_of_mem _ hq))
  have e := each zs its r hz
  have back : ∀ {out : List Value} {ys : List Item}, PySem.W.EachIs (fun u (p : Item) => RelV p.1 u ∧ ∃ as, Reads s.heap u p.2 as) out ys → Vals (ys.map Prod.fst) out := by
    intro out ys h
    induction h with
    | nil => exact .nil
    | cons h _ ih => exact .cons h.1 ih
  refine PySem.W.sorted_data pl.isList e (e.mono fun _ _ h => h.2) al so sz (fun b hb => by have := dp b hb; omega) ?_
  intro out ho eo
  obtain ⟨ep, he⟩ := PyProof.Rows.sortedAll_at s.heap its out.toArray
  have rr := back eo
  have ln : ((zs.mergeSort (PySem.W.dataLe false Prod.snd)).map Prod.fst).length ≤ sizeLine := by
    rw [List.length_map, List.length_mergeSort]
    exact sz
  exact ⟨.ref _, upd H (s.heap.objs.size + 1) (.lst ((zs.mergeSort (PySem.W.dataLe false Prod.snd)).map Prod.fst)), I.laid (t' := s.toks) (fun _ _ => PyProof.Rows.sortedAll_old) (Nat.le_succ _) ⟨ln, out, ep, rr, he⟩, rfl, q _ (I.hok.fresh (Nat.le_succ _))⟩
end
end Kx
/-! The dice. -/
namespace K04
open PySem PySem.Spec PyProof.Rows L2 Kx
/-- all but a stands -/
def But (a : Addr) (H H' : Hp) : Prop := ∀ b o, H b = some o → b ≠ a → H' b = some o
theorem But.refl (a : Addr) (H : Hp) : But a H H := fun _ _ h _ => h
theorem But.trans {a : Addr} {H H1 H2 : Hp} (x : But a H H1) (y : But a H1 H2) : But a H H2 := fun b o h n => y b o (x b o h n) n
theorem But.of {a : Addr} {H H' : Hp} (x : Same H H') : But a H H' := fun b o h _ => x b o h
theorem But.upd {a : Addr} {H : Hp} {o : HO} : But a H (upd H a o) := fun b u h n => by rw [upd_ne n]; exact h
theorem same_new {H : Hp} {p : Addr} {o : HO} (h : H p = none) : Same H (upd H p o) := fun b x e => by
  rw [upd_ne (ne_of_none e h)]
  exact e
/-- dice at a, rolled n times at most -/
def Dice (H : Hp) (a : Addr) (n : Nat) : Prop := ∃ i0 i1 i2 : Int, H a = some (.lst [.int i0, .int i1, .int i2]) ∧ 0 ≤ i0 ∧ i0 < 2 ^ 2200 ∧ 0 ≤ i1 ∧ i1 < 2 ^ 61 ∧ 0 ≤ i2 ∧ i2 ≤ n
theorem Dice.up {H H' : Hp} {a : Addr} {n : Nat} (d : Dice H a n) (e : Same H H') : Dice H' a n := by
  obtain ⟨i0, i1, i2, h, r⟩ := d
  exact ⟨i0, i1, i2, e _ _ h, r⟩
theorem Dice.le {H : Hp} {a : Addr} {n m : Nat} (d : Dice H a n) (e : n ≤ m) : Dice H a m := by
  obtain ⟨i0, i1, i2, h, a1, a2, a3, a4, a5, a6⟩ := d
  exact ⟨i0, i1, i2, h, a1, a2, a3, a4, a5, by omega⟩
section
variable {P : Program} {w : World} {K : PySem.W.Frag} {mg : Str → Option Value} {base : Heap}
def spDice (K : PySem.W.Frag) : Sp := fun vs H Q _ => ∃ (a : Addr) (ns : List Int) (k : Nat), vs = [.ref a, .int k] ∧ SqL K H a (ns.map V.int) ∧ k < 1000 ∧ ∀ H' p, Same H H' → H p = none → Dice H' p 0 → Q (.ref p) H'
theorem ok_dice (T : Tx K mg) : FnOk P w K mg base CX0 1 T.a_law_dice T.d_law_dice ["script", "spot"] (spDice K) := by
  have nd := sc__law_dice.nd
  refine T.f_law_dice.ok sc__law_dice (fun vs H Q E h => ?_) (fun cdv A outer s H vs Q E hr h => ?_)
  · obtain ⟨a, ns, k, rfl, _⟩ := h
    rfl
  · obtain ⟨a, ns, k, rfl, hS, hk, q⟩ := h
    refine ⟨_, (C8.pss_cut (ps_set (i := 2) nd rfl (.inl rfl) (pe_ifExp (pt_cmpR op_lt (pv 1) (pe_callB call_len_seq (by rfl) T.b_len (by decide +kernel) (pa_cons (pv 0) pa_nil)) (nomark _)) (pe_ix ix_list (pv 0) (pv 1) (fun _ _ => rfl)) (pe_op op_add (pe_op op_mul pe_int (pv 1)) pe_int)))
      (pss_cons (ps_set (i := 3) nd rfl (.inl rfl) (pe_op op_mod (pe_callTy call_int1 (by rfl) T.b_int (by decide +kernel) (pa_cons (pe_callB call_abs (by rfl) T.b_abs (by decide +kernel) (pa_cons (pv 2) pa_nil)) pa_nil)) (pe_op op_powX (pe_op op_pow pe_int pe_int) pe_int)))
      (pss_cons (ps_set (i := 4) nd rfl (.inl rfl) (pe_op op_mul (pe_op op_mod (pe_callTy call_int1 (by rfl) T.b_int (by decide +kernel) (pa_cons (pv 3) pa_nil)) pe_int) pe_int))
      (pss_cons (ps_set (i := 4) nd rfl (.inl rfl) (pe_op op_add (pe_op op_add (pe_op op_add (pv 4) (pe_op op_mul pe_int (pv 1))) (pe_op op_mul pe_int (pe_callTy call_int1 (by rfl) T.b_int (by decide +kernel) (pa_cons (pe_cmpR op_lt (pv 2) pe_int (nomark _)) pa_nil)))) pe_int))
      (pss_one (ps_ret (pe_lst (pa_cons (pe_callB (call_max2 rfl) (by rfl) T.b_max (by decide +kernel) (pa_cons pe_int (pa_cons (pe_op op_add (pe_op op_sub (pv 3) (pe_op op_pow pe_int pe_int)) pe_int) pa_nil))) (pa_cons (pe_op op_mod (pe_callTy call_int1 (by rfl) T.b_int (by decide +kernel) (pa_cons (pv 4) pa_nil)) pe_int) (pa_cons pe_int pa_nil)))))))))), ?_⟩
    -- cell: one or the other int
    refine ⟨fun σ' H' => H' = H ∧ ∃ c : Int, σ' = [some (.ref a), some (.int k), some (.int c), none, none], ?_, ?_⟩
    · refine ⟨_, rfl, .ref a, rfl, a, ns.map V.int, rfl, .inl hS, k, _, rfl, rfl, _, rfl, ite2 (fun hc => ?_) (fun hc => ?_)⟩
      · have lt : k < ns.length := by
          have z := of_decide_eq_true hc
          rw [List.length_map] at z
          omega
        refine ⟨.ref a, rfl, _, rfl, a, ns.map V.int, (k : Int), .int ns[k], rfl, rfl, hS, atI_nat (by rw [List.getElem?_map, List.getElem?_eq_getElem lt]; rfl), rfl, ns[k], rfl⟩
      · exact ⟨_, rfl, 37, k, rfl, rfl, .inl ⟨by decide, by decide⟩, _, _, rfl, rfl, rfl, _, rfl⟩
    rintro σ' H' ⟨rfl, c, rfl⟩
    -- great
    refine ⟨_, rfl, c, rfl, .inl ⟨_, rfl, 10, 59, rfl, rfl, ⟨by decide, by decide, by decide⟩, _, 11, rfl, rfl, ⟨by decide, by decide +kernel⟩, _, _, rfl, rfl, (show (0 : Int) < ((10 : Int) ^ (59 : Int).toNat) ^ (11 : Int).toNat by decide +kernel), ?_⟩⟩
    dsimp only
    have g0 := Int.emod_nonneg (if c < 0 then -c else c) (show ((10 : Int) ^ (59 : Int).toNat) ^ (11 : Int).toNat ≠ 0 by decide +kernel)
    have g1 := Int.emod_lt_of_pos (if c < 0 then -c else c) (show (0 : Int) < ((10 : Int) ^ (59 : Int).toNat) ^ (11 : Int).toNat by decide +kernel)
    have g2 : ((10 : Int) ^ (59 : Int).toNat) ^ (11 : Int).toNat < 2 ^ 2200 := by decide +kernel
    have g3 := Int.lt_trans g1 g2
    clear g1 g2
    generalize (if c < 0 then -c else c) % ((10 : Int) ^ (59 : Int).toNat) ^ (11 : Int).toNat = g at g0 g3 ⊢
    -- mixed
    refine ⟨_, rfl, .inl ⟨g, rfl, g, 2305843009213693951, rfl, rfl, (show (0 : Int) < 2305843009213693951 by decide), _, 7046029254386353, rfl, rfl, .inr ⟨by decide, by decide⟩, ?_⟩⟩
    refine ⟨_, rfl, _, rfl, 131, k, rfl, rfl, .inl ⟨by decide, by decide⟩, _, _, rfl, rfl, _, rfl, c, 0, rfl, rfl, .inr ⟨_, rfl, 17, _, rfl, rfl, .inl ⟨by decide, by decide⟩, _, _, rfl, rfl, _, 3, rfl, rfl, ?_⟩⟩
    dsimp only
    generalize g % 2305843009213693951 * 7046029254386353 + 131 * (k : Int) + 17 * (if decide (c < 0) = true then 1 else 0) + 3 = m
    -- the list
    refine ⟨_, rfl, 10, 18, rfl, rfl, ⟨by decide, by decide, by decide⟩, g, _, rfl, rfl, _, 1, rfl, rfl, 0, _, rfl, _, rfl, .inl ⟨m, rfl, m, 2305843009213693921, rfl, rfl, (show (0 : Int) < 2305843009213693921 by decide), by show 3 ≤ sizeLine; decide, fun p np => ?_⟩⟩
    refine q _ p (same_new np) np ⟨_, _, _, upd_same, ?_, ?_, Int.emod_nonneg _ (by decide), Int.lt_trans (Int.emod_lt_of_pos _ (by decide)) (by decide), by decide, by decide⟩
    · split <;> omega
    · split
      · have : (0 : Int) ≤ 10 ^ (18 : Int).toNat := by decide
        have z : (1 : Int) ≤ 10 ^ (18 : Int).toNat := by decide
        omega
      · decide
end
end K04
/-! The dice rolled; an item picked; items mixed. -/
namespace K04
open PySem PySem.Spec PyProof.Rows L2 Kx
section
variable {P : Program} {w : World} {K : PySem.W.Frag} {mg : Str → Option Value} {base : Heap}
def cap : Nat := 1000000
def spRoll : Sp := fun vs H Q _ => ∃ (a : Addr) (n : Nat) (m : Int), vs = [.ref a, .int m] ∧ Dice H a n ∧ n < cap ∧ 0 < m ∧ m < 1000000 ∧ ∀ (r : Int) H', But a H H' → Dice H' a (n + 1) → 0 ≤ r → r < m → Q (.int r) H'
theorem ok_roll (T : Tx K mg) : FnOk P w K mg base CX0 1 T.a_law_roll T.d_law_roll ["dice", "many"] spRoll := by
  have nd := sc__law_roll.nd
  refine T.f_law_roll.ok sc__law_roll (fun vs H Q E h => ?_) (fun cdv A outer s H vs Q E hr h => ?_)
  · obtain ⟨a, n, m, rfl, _⟩ := h
    rfl
  · obtain ⟨a, n, m, rfl, ⟨i0, i1, i2, hd, h0, h1, h2, h3, h4, h5⟩, hn, m0, m1, q⟩ := h
    have sl : SqL K H a [.int i0, .int i1, .int i2] := .inl (.inl hd)
    refine ⟨_, (pss_cons (ps_if (pt_cmpR op_gt (pe_ix ix_list (pv 0) pe_int (fun _ _ => rfl)) pe_int (nomark _)) (pss_cons (ps_set (i := 2) nd rfl (.inl rfl) (pe_op op_mod (pe_callTy call_int1 (by rfl) T.b_int (by decide +kernel) (pa_cons (pe_ix ix_list (pv 0) pe_int (fun _ _ => rfl)) pa_nil)) (pv 1)))
      (pss_cons (ps_asg (pe_op op_fdivW (pe_ix ix_list (pv 0) pe_int (fun _ _ => rfl)) (pv 1)) (pg_sub (pv 0) pe_int set_list))
      (pss_one (ps_ret (pv 2))))) pss_nil)
      (pss_cons (ps_asg (pe_op op_add (pe_ix ix_list (pv 0) pe_int (fun _ _ => rfl)) pe_int) (pg_sub (pv 0) pe_int set_list))
      (pss_cons (ps_set (i := 3) nd rfl (.inl rfl) (pe_op op_mod (pe_callTy call_int1 (by rfl) T.b_int (by decide +kernel) (pa_cons (pe_op op_add (pe_ix ix_list (pv 0) pe_int (fun _ _ => rfl)) (pe_op op_mul pe_int (pe_ix ix_list (pv 0) pe_int (fun _ _ => rfl)))) pa_nil)) pe_int))
      (pss_cons (ps_set (i := 4) nd rfl (.inl rfl) (pe_op op_add (pe_op op_mul (pe_op op_mod (pe_callTy call_int1 (by rfl) T.b_int (by decide +kernel) (pa_cons (pe_op op_mul (pv 3) (pv 3)) pa_nil)) pe_int) (pv 3)) (pe_op op_mul pe_int (pe_ix ix_list (pv 0) pe_int (fun _ _ => rfl)))))
      (pss_one (ps_ret (pe_op op_mod (pe_callTy call_int1 (by rfl) T.b_int (by decide +kernel) (pa_cons (pe_op op_fdiv (pe_op op_mod (pe_callTy call_int1 (by rfl) T.b_int (by decide +kernel) (pa_cons (pe_op op_add (pe_op op_mulW (pv 4) (pv 4)) (pe_ix ix_list (pv 0) pe_int (fun _ _ => rfl))) pa_nil)) pe_int) pe_int) pa_nil)) (pv 1)))))))), ?_⟩
    refine ⟨_, rfl, a, _, _, _, rfl, rfl, sl, atI_nat (j := 0) rfl, i0, 0, rfl, rfl, _, rfl, ite2 (fun hc => ?_) (fun hc => ?_)⟩
    · -- the great number
      refine ⟨_, rfl, a, _, _, _, rfl, rfl, sl, atI_nat (j := 0) rfl, .inl ⟨i0, rfl, _, rfl, i0, m, rfl, rfl, m0, ?_⟩⟩
      refine ⟨_, rfl, a, _, _, _, rfl, rfl, sl, atI_nat (j := 0) rfl, _, rfl, i0, m, rfl, rfl, wide_div m0 (b := 30) (by omega) (by decide) (by decide), _, rfl, a, _, _, 0, rfl, rfl, hd, rfl, ?_⟩
      refine ⟨_, rfl, q _ _ But.upd ⟨i0 / m, i1, i2, upd_same, Int.ediv_nonneg h0 (by omega), Int.lt_of_le_of_lt (Int.ediv_le_self _ h0) h1, h2, h3, h4, by omega⟩ (Int.emod_nonneg _ (by omega)) (Int.emod_lt_of_pos _ m0)⟩
    · -- the small one
      refine ⟨_, rfl, a, _, _, _, rfl, rfl, sl, atI_nat (j := 2) rfl, i2, 1, rfl, rfl, _, rfl, a, _, _, 2, rfl, rfl, hd, rfl, ?_⟩
      have hd2 : (upd H a (.lst ([V.int i0, V.int i1, V.int i2].set 2 (V.int (i2 + 1))))) a = some (.lst [V.int i0, V.int i1, V.int (i2 + 1)]) := upd_same
      have sl2 : SqL K (upd H a (.lst ([V.int i0, V.int i1, V.int i2].set 2 (V.int (i2 + 1))))) a [.int i0, .int i1, .int (i2 + 1)] := .inl (.inl hd2)
      refine ⟨_, rfl, a, _, _, _, rfl, rfl, sl2, atI_nat (j := 1) rfl, _, rfl, a, _, _, _, rfl, rfl, sl2, atI_nat (j := 2) rfl, 1220703125, i2 + 1, rfl, rfl, .inl ⟨by decide, by decide⟩, i1, _, rfl, rfl, .inl ⟨_, rfl, _, 36028797018963913, rfl, rfl, (show (0 : Int) < 36028797018963913 by decide), ?_⟩⟩
      dsimp only
      have o0 := Int.emod_nonneg (i1 + 1220703125 * (i2 + 1)) (show (36028797018963913 : Int) ≠ 0 by decide)
      have o1 := Int.emod_lt_of_pos (i1 + 1220703125 * (i2 + 1)) (show (0 : Int) < 36028797018963913 by decide)
      generalize (i1 + 1220703125 * (i2 + 1)) % 36028797018963913 = one at o0 o1 ⊢
      refine ⟨_, rfl, _, rfl, one, one, rfl, rfl, .inl ⟨by omega, by omega⟩, .inl ⟨_, rfl, _, 18014398509481951, rfl, rfl, (show (0 : Int) < 18014398509481951 by decide), _, rfl, _, one, rfl, rfl, .inr ⟨by omega, by omega⟩, _, rfl, a, _, _, _, rfl, rfl, sl2, atI_nat (j := 2) rfl, 271828183, i2 + 1, rfl, rfl, .inl ⟨by decide, by decide⟩, _, _, rfl, rfl, ?_⟩⟩
      dsimp only
      have x0 := Int.emod_nonneg (one * one) (show (18014398509481951 : Int) ≠ 0 by decide)
      have x1 := Int.emod_lt_of_pos (one * one) (show (0 : Int) < 18014398509481951 by decide)
      generalize one * one % 18014398509481951 = x at x0 x1 ⊢
      have y0 : 0 ≤ x * one := Int.mul_nonneg x0 o0
      have y1 : x * one ≤ 18014398509481951 * 36028797018963913 := Int.mul_le_mul (by omega) (by omega) o0 (by decide)
      generalize x * one = y at y0 y1 ⊢
      have hn' : (i2 + 1 : Int) ≤ 1000001 := by
        unfold cap at hn
        omega
      have t1 : (y + 271828183 * (i2 + 1)).natAbs < 2 ^ 120 := by omega
      generalize y + 271828183 * (i2 + 1) = two at t1 ⊢
      refine ⟨_, rfl, _, rfl, two, two, rfl, rfl, wide_mul t1 t1 (by decide) (by decide) (by decide), _, rfl, a, _, _, _, rfl, rfl, sl2, atI_nat (j := 1) rfl, _, i1, rfl, rfl, .inl ⟨_, rfl, _, 1125899906842597, rfl, rfl, (show (0 : Int) < 1125899906842597 by decide), _, 4096, rfl, rfl, ⟨by decide, by decide⟩, .inl ⟨_, rfl, _, rfl, _, m, rfl, rfl, m0, ?_⟩⟩⟩
      exact q _ _ But.upd ⟨i0, i1, i2 + 1, hd2, h0, h1, h2, h3, by omega, by omega⟩ (Int.emod_nonneg _ (by omega)) (Int.emod_lt_of_pos _ m0)
/-- an item of a list at b -/
def spPick (K : PySem.W.Frag) : Sp := fun vs H Q _ => ∃ (a b : Addr) (n : Nat) (xs : List V), vs = [.ref a, .ref b] ∧ Dice H a n ∧ n < cap ∧ SqL K H b xs ∧ b ≠ a ∧ 0 < xs.length ∧ xs.length < 1000000 ∧ ∀ (i : Nat) (v : V) H', But a H H' → Dice H' a (n + 1) → xs[i]? = some v → Q v H'
theorem But.sq {a b : Addr} {H H' : Hp} {xs : List V} (x : But a H H') (h : SqL K H b xs) (n : b ≠ a) : SqL K H' b xs := by
  rcases h with (h | ⟨o, h⟩) | h
  · exact .inl (.inl (x _ _ h n))
  · exact .inl (.inr ⟨o, x _ _ h n⟩)
  · exact .inr h
theorem ok_pick (T : Tx K mg) : FnOk P w K mg base CX0 2 T.a_law_pick T.d_law_pick ["dice", "items"] (spPick K) := by
  have nd := sc__law_pick.nd
  have G := ok_roll (P := P) (w := w) (base := base) T
  refine T.f_law_pick.ok sc__law_pick (fun vs H Q E h => ?_) (fun cdv A outer s H vs Q E hr h => ?_)
  · obtain ⟨a, b, n, xs, rfl, _⟩ := h
    rfl
  · obtain ⟨a, b, n, xs, rfl, hd, hn, hb, ne, l0, l1, q⟩ := h
    refine ⟨_, (pss_one (ps_ret (pe_ix ix_list (pv 1) (pe_call G (hr.mono (by decide)) (by rfl) T.g_law_roll T.f_law_roll.kp T.n_law_roll .nil pass0 (pa_cons (pv 0) (pa_cons (pe_callB call_len_seq (by rfl) T.b_len (by decide +kernel) (pa_cons (pv 1) pa_nil)) pa_nil))) (fun _ _ => rfl)))), ?_⟩
    refine ⟨_, rfl, _, rfl, _, rfl, b, xs, rfl, .inl hb, a, n, _, rfl, hd, hn, by omega, by omega, fun r H' bt hd' r0 r1 => ?_⟩
    have lt : r.toNat < xs.length := by omega
    have e : xs[r.toNat]? = some xs[r.toNat] := List.getElem?_eq_getElem lt
    refine ⟨b, xs, r, _, rfl, rfl, bt.sq hb ne, ?_, q _ _ _ bt hd' e⟩
    exact at_of (by omega) e
end
end K04
/-! Compared with an empty list, an empty tuple. -/
namespace Kx
open PySem PySem.Spec PyProof.Rows L2
section
variable {X : Cx}
def rNilL (K : PySem.W.Frag) (g : Bool → Bool) : R2 := fun x y H Q => ∃ a b xs, x = .ref a ∧ y = .ref b ∧ SqL K H a xs ∧ SqL K H b [] ∧ Q (.bl (g xs.isEmpty)) H
def rNilT (K : PySem.W.Frag) (g : Bool → Bool) : R2 := fun x y H Q => ∃ a b xs, x = .ref a ∧ y = .ref b ∧ SqT K H a xs ∧ SqT K H b [] ∧ Q (.bl (g xs.isEmpty)) H
theorem op_neNil (hu : X.A.units + 64 < cLine) : OpR X (compareOp .NotEq) (rNilL X.K fun b => !b) := by
  intro pins s σ H x y v u Q I rx ry h
  obtain ⟨a, b, xs, rfl, rfl, ha, hb, q⟩ := h
  cases xs with
  | nil => exact op_neD hu pins s σ H _ _ v u Q I rx ry ⟨.list [], .list [], .lst ha .nil, .lst hb .nil, rfl, rfl, by simpa [PyData.eqv, PyData.eqvAll] using q⟩
  | cons z zs =>
    cases rx
    cases ry
    obtain ⟨i1, r1, p1, _⟩ := I.list ha
    obtain ⟨i2, r2, p2, _⟩ := I.list hb
    cases r2
    have ne : (i1.toArray.size != (#[] : Array Value).size) = true := by
      cases r1
      simp
    exact SeqAt.RcNeAt.lists_lengths p1.isList p2.isList ne (by omega) _ _ _ _ ⟨.bl _, H, I, rfl, q⟩
theorem op_eqNil (hu : X.A.units + 64 < cLine) : OpR X (compareOp .Eq) (rNilL X.K fun b => b) := by
  intro pins s σ H x y v u Q I rx ry h
  obtain ⟨a, b, xs, rfl, rfl, ha, hb, q⟩ := h
  cases xs with
  | nil => exact op_eqD hu pins s σ H _ _ v u Q I rx ry ⟨.list [], .list [], .lst ha .nil, .lst hb .nil, rfl, rfl, by simpa [PyData.eqv, PyData.eqvAll] using q⟩
  | cons z zs =>
    cases rx
    cases ry
    obtain ⟨i1, r1, p1, _⟩ := I.list ha
    obtain ⟨i2, r2, p2, _⟩ := I.list hb
    cases r2
    have ne : (i1.toArray.size != (#[] : Array Value).size) = true := by
      cases r1
      simp
    exact SeqAt.RcAt.lists_lengths p1.isList p2.isList ne (by omega) _ _ _ _ ⟨.bl _, H, I, rfl, q⟩
end
end Kx
/-! Items mixed. -/
namespace K04
open PySem PySem.Spec PyProof.Rows L2 Kx
theorem erase_perm {α : Type} : ∀ {l : List α} {k : Nat} {y : α}, l[k]? = some y → (y :: l.eraseIdx k).Perm l
  | [], _, _, h => by simp at h
  | x :: l, 0, y, h => by
    simp at h
    subst h
    exact List.Perm.refl _
  | x :: l, k + 1, y, h => by
    have ih := erase_perm (l := l) (k := k) (y := y) (by simpa using h)
    rw [List.eraseIdx_cons_succ]
    exact (List.Perm.swap _ _ _).trans (ih.cons x)
theorem Dice.same {H H' : Hp} {a : Addr} {n : Nat} (d : Dice H a n) (e : H' a = H a) : Dice H' a n := by
  obtain ⟨i0, i1, i2, h, r⟩ := d
  exact ⟨i0, i1, i2, by rw [e, h], r⟩
section
variable {P : Program} {w : World} {K : PySem.W.Frag} {mg : Str → Option Value} {base : Heap}
/-- items in another order, a new list -/
def spMixed (K : PySem.W.Frag) : Sp := fun vs H Q _ => ∃ (a b : Addr) (n : Nat) (xs : List V), vs = [.ref a, .ref b] ∧ Dice H a n ∧ n + xs.length < cap ∧ SqL K H b xs ∧ b ≠ a ∧ xs.length < 1000 ∧
  ∀ (ys : List V) (p : Addr) H', But a H H' → Dice H' a (n + xs.length) → ys.Perm xs → H p = none → p ≠ a → H' p = some (.lst ys) → Q (.ref p) H'
theorem ok_mixed (T : Tx K mg) : FnOk P w K mg base CX0 2 T.a_law_mixed T.d_law_mixed ["dice", "items"] (spMixed K) := by
  have nd := sc__law_mixed.nd
  have G := ok_roll (P := P) (w := w) (base := base) T
  refine T.f_law_mixed.ok sc__law_mixed (fun vs H Q E h => ?_) (fun cdv A outer s H vs Q E hr h => ?_)
  · obtain ⟨a, b, n, xs, rfl, _⟩ := h
    rfl
  · obtain ⟨a, b, n, xs, rfl, hd, hn, hb, ne, l1, q⟩ := h
    refine ⟨_, (pss_cons (ps_par (i := 2) (j := 3) (by rfl) nd rfl rfl (by decide) rfl rfl (pa_cons (pe_callTy call_list_of (by rfl) T.b_list (by decide +kernel) (pa_cons (pv 1) pa_nil)) (pa_cons (pe_lst pa_nil) pa_nil)) (by rfl))
      (pss_cons (ps_while PassesOwn.never (pt_cmpR (op_neNil hr.units) (pv 2) (pe_lst pa_nil) (nomark _)) (pss_one (ps_expr (pe_bm PySem.F.plainAttrs_list PySem.F.slot_list_append PySem.F.type_list_append mt_append (pv 3) (pa_cons (pe_bm PySem.F.plainAttrs_list PySem.F.slot_list_pop PySem.F.type_list_pop mt_popAt (pv 2) (pa_cons (pe_call G (hr.mono (by decide)) (by rfl) T.g_law_roll T.f_law_roll.kp T.n_law_roll .nil pass0 (pa_cons (pv 0) (pa_cons (pe_callB call_len_seq (by rfl) T.b_len (by decide +kernel) (pa_cons (pv 2) pa_nil)) pa_nil))) pa_nil)) pa_nil)))))
      (pss_one (ps_ret (pv 3))))), ?_⟩
    have na : ∀ {p : Addr}, H p = none → p ≠ a := fun h e => by
      subst e
      obtain ⟨i0, i1, i2, z, _⟩ := hd
      rw [z] at h
      cases h
    refine ⟨_, rfl, b, xs, rfl, .inl hb, fun l nl => ⟨Nat.zero_le _, fun f nf => ?_⟩⟩
    have nl' : H l = none := nl
    have nfl : f ≠ l := fun e => by
      subst e
      rw [upd_same] at nf
      cases nf
    have nf' : H f = none := by
      rw [← nf, upd_ne nfl]
    refine ⟨_, _, rfl, ?_⟩
    -- the loop: what is left at l, what is found at f
    refine ⟨fun m σ H2 => σ = [some (.ref a), some (.ref b), some (.ref l), some (.ref f)] ∧ ∃ ls fs : List V, m = ls.length ∧ H2 l = some (.lst ls) ∧ H2 f = some (.lst fs) ∧ (fs ++ ls).Perm xs ∧ But a H H2 ∧ Dice H2 a (n + fs.length),
      ⟨xs.length, rfl, xs, [], rfl, ?_, upd_same, List.Perm.refl _, ?_, ?_⟩, ?_⟩
    · rw [upd_ne nfl.symm, upd_same]
    · exact But.of ((same_new nl').trans (same_new nf))
    · exact (hd.up ((same_new nl').trans (same_new nf))).le (by omega)
    rintro m σ H2 ⟨rfl, ls, fs, rfl, el, ef, pm, bt, dd⟩
    have len := pm.length_eq
    rw [List.length_append] at len
    refine ⟨_, rfl, Nat.zero_le _, fun e ne' => ?_⟩
    have s3 : Same H2 (upd H2 e (.lst [])) := same_new ne'
    refine ⟨l, e, ls, rfl, rfl, .inl (.inl (s3 _ _ el)), .inl (.inl upd_same), _, rfl, ?_⟩
    cases ls with
    | nil =>
      -- the end
      refine iteF ⟨_, rfl, q fs f _ (bt.trans (But.of s3)) ((dd.up s3).le ?_) ?_ nf' (na nf') (s3 _ _ ef)⟩
      · simp at len
        omega
      · simpa using pm
    | cons y0 ys0 =>
      refine iteT ⟨fun σ' H' => ∃ m', m' < (y0 :: ys0).length ∧ _, fun _ _ h => h, ?_⟩
      have sl : SqL K (upd H2 e (.lst [])) l (y0 :: ys0) := .inl (.inl (s3 _ _ el))
      rw [List.length_cons] at len
      refine ⟨_, rfl, .inl ⟨rfl, fs, .inl (.inl (s3 _ _ ef))⟩, _, rfl, .inl ⟨rfl, _, sl⟩, _, rfl, _, rfl, l, _, rfl, .inl sl, a, n + fs.length, _, rfl, dd.up s3, by omega, by rw [List.length_cons]; omega, by rw [List.length_cons]; omega, fun r H4 b4 d4 r0 r1 => ?_⟩
      have nla : l ≠ a := na nl'
      have nfa : f ≠ a := na nf'
      have el4 := b4 _ _ (s3 _ _ el) nla
      have ef4 := b4 _ _ (s3 _ _ ef) nfa
      have lt : r.toNat < (y0 :: ys0).length := by omega
      have ey : (y0 :: ys0)[r.toNat]? = some (y0 :: ys0)[r.toNat] := List.getElem?_eq_getElem lt
      generalize (y0 :: ys0)[r.toNat] = y at ey
      have bound : (y0 :: ys0).length < 1000 := by
        rw [List.length_cons]
        omega
      refine ⟨l, _, r, r.toNat, y, rfl, rfl, el4, by omega, by omega, PySem.seqIndex_of r0 r1, ey, ?_⟩
      have ef5 : (upd H4 l (.lst ((y0 :: ys0).eraseIdx r.toNat))) f = some (.lst fs) := by
        rw [upd_ne nfl]
        exact ef4
      refine ⟨f, fs, y, rfl, rfl, ef5, small1000 (by omega), ?_⟩
      have lne : ((y0 :: ys0).eraseIdx r.toNat).length + 1 = (y0 :: ys0).length := by
        rw [List.length_eraseIdx_of_lt lt, Nat.sub_add_cancel (by simp)]
      refine ⟨_, by omega, rfl, (y0 :: ys0).eraseIdx r.toNat, fs ++ [y], rfl, ?_, upd_same, ?_, ?_, ?_⟩
      · rw [upd_ne nfl.symm, upd_same]
      · refine List.Perm.trans ?_ pm
        rw [List.append_assoc]
        exact (erase_perm ey).append_left fs
      · intro c o hc hne
        rw [upd_ne (ne_of_none hc nf'), upd_ne (ne_of_none hc nl')]
        exact b4 _ _ (s3 _ _ (bt c o hc hne)) hne
      · rw [List.length_append, List.length_singleton, ← Nat.add_assoc]
        exact d4.same (by rw [upd_ne nfa.symm, upd_ne nla.symm])
end
end K04
/-! Names and forms. -/
namespace K04
open PySem PySem.Spec PyProof.Rows L2 Kx
def letter (c : Nat) : Bool := decide (97 ≤ c) && decide (c ≤ 122)
def isNm (x : Str) : Bool := decide (1 ≤ x.length) && decide (x.length ≤ 8) && x.cps.all letter
theorem ascii_table : ((List.range 128).all fun c => (letter c == (Unicode.isAlpha c && !(Unicode.isUpper c || Unicode.isTitle c))) && (!letter c || Unicode.isLower c)) = true := by decide +kernel
theorem ascii_at {c : Nat} (h : c < 128) : letter c = (Unicode.isAlpha c && !(Unicode.isUpper c || Unicode.isTitle c)) ∧ (letter c = true → Unicode.isLower c = true) := by
  have z := List.all_eq_true.mp ascii_table c (List.mem_range.mpr h)
  rw [Bool.and_eq_true, beq_iff_eq] at z
  refine ⟨z.1, fun l => ?_⟩
  have y := z.2
  rw [l] at y
  simpa using y
theorem letter_ascii {c : Nat} (h : letter c = true) : c < 128 := by
  unfold letter at h
  simp at h
  omega
theorem name_txt (x : Str) : (Txt.isascii x && (Txt.isalpha x && Txt.islower x)) = (decide (1 ≤ x.length) && x.cps.all letter) := by
  rw [Bool.eq_iff_iff]
  simp only [Bool.and_eq_true, Txt.isascii, Txt.isalpha, Txt.islower, Array.all_eq_true, Array.any_eq_true, Bool.not_eq_true', decide_eq_true_eq]
  constructor
  · rintro ⟨h1, ⟨h2, h3⟩, h4, h5⟩
    refine ⟨h2, fun i hi => ?_⟩
    rw [(ascii_at (by simpa using h1 i hi)).1, h3 i hi, Bool.true_and, Bool.not_eq_true']
    exact (by
      have z : ¬ (x.cps.any fun c => Unicode.isUpper c || Unicode.isTitle c) = true := by rw [h5]; exact Bool.false_ne_true
      rw [Array.any_eq_true] at z
      cases e : (Unicode.isUpper x.cps[i] || Unicode.isTitle x.cps[i]) with
      | false => rfl
      | true => exact absurd ⟨i, hi, e⟩ z)
  · rintro ⟨h1, h2⟩
    have a : ∀ (i : Nat) (hi : i < x.cps.size), x.cps[i] < 128 := fun i hi => letter_ascii (h2 i hi)
    have b : ∀ (i : Nat) (hi : i < x.cps.size), Unicode.isAlpha x.cps[i] = true ∧ (Unicode.isUpper x.cps[i] || Unicode.isTitle x.cps[i]) = false := fun i hi => by
      have z := h2 i hi
      rw [(ascii_at (a i hi)).1] at z
      simpa using z
    refine ⟨fun i hi => by simpa using a i hi, ⟨h1, fun i hi => (b i hi).1⟩, ⟨0, h1, (ascii_at (a 0 h1)).2 (h2 0 h1)⟩, ?_⟩
    cases e : (x.cps.any fun c => Unicode.isUpper c || Unicode.isTitle c) with
    | false => rfl
    | true =>
      obtain ⟨i, hi, z⟩ := Array.any_eq_true.mp e
      rw [(b i hi).2] at z
      cases z
def nameD : PyData → Bool
  | .str x => isNm x
  | _ => false
/-- a tuple of a name and at most three others -/
def formD : PyData → Bool
  | .tuple (d :: ds) => decide (ds.length ≤ 3) && nameD d
  | _ => false
theorem kit_str : ∀ d : PyData, kitB (tyD d) "str" = some (match d with | .str _ => true | _ => false)
  | .none => (by decide +kernel : kitB "NoneType" "str" = some false)
  | .bool _ => (by decide +kernel : kitB "bool" "str" = some false)
  | .int _ => (by decide +kernel : kitB "int" "str" = some false)
  | .str _ => (by decide +kernel : kitB "str" "str" = some true)
  | .list _ => (by decide +kernel : kitB "list" "str" = some false)
  | .tuple _ => (by decide +kernel : kitB "tuple" "str" = some false)
  | .dict _ => (by decide +kernel : kitB "dict" "str" = some false)
theorem kit_tuple : ∀ d : PyData, kitB (tyD d) "tuple" = some (match d with | .tuple _ => true | _ => false)
  | .none => (by decide +kernel : kitB "NoneType" "tuple" = some false)
  | .bool _ => (by decide +kernel : kitB "bool" "tuple" = some false)
  | .int _ => (by decide +kernel : kitB "int" "tuple" = some false)
  | .str _ => (by decide +kernel : kitB "str" "tuple" = some false)
  | .list _ => (by decide +kernel : kitB "list" "tuple" = some false)
  | .tuple _ => (by decide +kernel : kitB "tuple" "tuple" = some true)
  | .dict _ => (by decide +kernel : kitB "dict" "tuple" = some false)
section
variable {P : Program} {w : World} {K : PySem.W.Frag} {mg : Str → Option Value} {base : Heap}
def spNm (K : PySem.W.Frag) : Sp := fun vs H Q _ => ∃ (x : V) (d : PyData), vs = [x] ∧ Dx K H x d ∧ (∀ y, d = .str y → y.length ≤ sizeLine) ∧ Q (.bl (nameD d)) H
theorem ok_name (T : Tx K mg) : FnOk P w K mg base CX0 1 T.ais_name T.dis_name ["value"] (spNm K) := by
  have nd := sc_is_name.nd
  obtain ⟨tk, hL⟩ := T.c_LONGEST_NAME
  refine T.fis_name.ok sc_is_name (fun vs H Q E h => ?_) (fun cdv A outer s H vs Q E hr h => ?_)
  · obtain ⟨x, d, rfl, _⟩ := h
    rfl
  · obtain ⟨x, d, rfl, hx, hz, q⟩ := h
    refine ⟨_, (pss_cons (ps_if (PW.pt (pw_or (pt_not (pt_val (pe_callB call_isi (by rfl) T.b_isinstance (by decide +kernel) (pa_cons (pv 0) (pa_cons (pe_bltn (v := .ty "str") (by rfl) T.b_str (by decide +kernel) rfl) pa_nil))))) (pw_or1 (pt_cmpR op_gt (pe_callB call_len_str (by rfl) T.b_len (by decide +kernel) (pa_cons (pv 0) pa_nil)) (pe_glob (v := .int 8) (by rfl) hL ⟨_, rfl⟩) (nomark _))))) (pss_one (ps_ret pe_bl)) pss_nil)
      (pss_one (ps_ret (pe_and (pe_bm0 PySem.F.plainAttrs_str PySem.F.slot_str_isascii PySem.F.type_str_isascii mt_isascii (pv 0)) (pe_and (pe_bm0 PySem.F.plainAttrs_str PySem.F.slot_str_isalpha PySem.F.type_str_isalpha mt_isalpha (pv 0)) (pe_one (pe_bm0 PySem.F.plainAttrs_str PySem.F.slot_str_islower PySem.F.type_str_islower mt_islower (pv 0)))))))), ?_⟩
    refine ⟨x, rfl, x, .ty "str", _, _, _, rfl, .ty _, hx.ty, kit_ty (kit_str d), _, rfl, ?_⟩
    cases hx with
    | str z =>
      refine iteF ⟨_, rfl, z, rfl, hz z rfl, _, _, rfl, rfl, _, rfl, ite2 (fun h8 => ?_) (fun h8 => ?_)⟩
      · -- too long
        have h9 := of_decide_eq_true h8
        have e : nameD (.str z) = false := by
          simp [nameD, isNm]
          omega
        rw [e] at q
        exact q
      · have h9 : z.length ≤ 8 := by
          simp at h8
          omega
        have e : nameD (.str z) = (Txt.isascii z && (Txt.isalpha z && Txt.islower z)) := by
          rw [name_txt]
          simp [nameD, isNm, h9]
        rw [e] at q
        refine ⟨_, rfl, rfl, z, rfl, rfl, trivial, _, rfl, ?_⟩
        cases e1 : Txt.isascii z with
        | false =>
          rw [e1] at q
          exact iteF q
        | true =>
          rw [e1, Bool.true_and] at q
          refine iteT ⟨_, rfl, rfl, z, rfl, rfl, trivial, _, rfl, ?_⟩
          cases e2 : Txt.isalpha z with
          | false =>
            rw [e2] at q
            exact iteF q
          | true =>
            rw [e2, Bool.true_and] at q
            exact iteT ⟨_, rfl, rfl, z, rfl, rfl, trivial, q⟩
    | non => exact iteT (iteT q)
    | bl b => exact iteT (iteT q)
    | int i => exact iteT (iteT q)
    | lst _ _ => exact iteT (iteT q)
    | tup _ _ => exact iteT (iteT q)
    | dic _ _ => exact iteT (iteT q)
/-- a value's form: a tuple of a name and at most three others -/
def spForm (K : PySem.W.Frag) : Sp := fun vs H Q _ => ∃ (x : V) (d : PyData), vs = [x] ∧ Dx K H x d ∧ (∀ ds, d = .tuple ds → ∀ y, .str y ∈ ds → y.length ≤ sizeLine) ∧ Q (.bl (formD d)) H
theorem ok_form (T : Tx K mg) : FnOk P w K mg base CX0 2 T.ahas_form T.dhas_form ["value"] (spForm K) := by
  have nd := sc_has_form.nd
  obtain ⟨tk, hM⟩ := T.c_MAX_PLACES
  have G := ok_name (P := P) (w := w) (base := base) T
  refine T.fhas_form.ok sc_has_form (fun vs H Q E h => ?_) (fun cdv A outer s H vs Q E hr h => ?_)
  · obtain ⟨x, d, rfl, _⟩ := h
    rfl
  · obtain ⟨x, d, rfl, hx, hz, q⟩ := h
    refine ⟨_, (pss_one (ps_ret (pe_and (pe_callB call_isi (by rfl) T.b_isinstance (by decide +kernel) (pa_cons (pv 0) (pa_cons (pe_bltn (v := .ty "tuple") (by rfl) T.b_tuple (by decide +kernel) rfl) pa_nil))) (pe_and (pe_chain op_le op_le pe_int (pe_callB call_len_seq (by rfl) T.b_len (by decide +kernel) (pa_cons (pv 0) pa_nil)) (pe_op op_add (pe_glob (v := .int 3) (by rfl) hM ⟨_, rfl⟩) pe_int)) (pe_one (pe_call G (hr.mono (by decide)) (by rfl) T.gis_name T.fis_name.kp T.nis_name .nil pass0 (pa_cons (pe_ix ix_tup (pv 0) pe_int (fun _ _ => rfl)) pa_nil))))))), ?_⟩
    refine ⟨x, rfl, x, .ty "tuple", _, _, _, rfl, .ty _, hx.ty, kit_ty (kit_tuple d), _, rfl, ?_⟩
    cases hx with
    | tup ha hs =>
      rename_i a xs ds
      have len := hs.length
      refine iteT ⟨_, rfl, a, xs, rfl, .inr (SqT.of ha), 1, _, rfl, rfl, _, rfl, ite2 (fun h1 => ?_) (fun h1 => ?_)⟩
      · have l1 : 0 < xs.length := by
          have := of_decide_eq_true h1
          omega
        refine ⟨3, 1, rfl, rfl, _, _, rfl, rfl, _, rfl, ite2 (fun h4 => ?_) (fun h4 => ?_)⟩
        · have l4 : xs.length ≤ 4 := by
            have := of_decide_eq_true h4
            omega
          cases hs with
          | nil => simp at l1
          | cons h0 ht =>
            rename_i v vs d ds
            refine ⟨_, rfl, a, _, 0, v, rfl, rfl, SqT.of ha, atI_nat (j := 0) rfl, v, d, rfl, h0, fun y e => hz _ rfl y (by rw [e]; exact List.mem_cons_self), ?_⟩
            have e : formD (.tuple (d :: ds)) = nameD d := by
              have := ht.length
              simp [formD]
              rw [List.length_cons] at l4
              omega
            rw [e] at q
            exact q
        · have e : formD (.tuple ds) = false := by
            cases ds with
            | nil => rfl
            | cons d ds =>
              rw [List.length_cons] at len
              simp [formD]
              intro z
              simp at h4
              omega
          rw [e] at q
          exact q
      · have e : formD (.tuple ds) = false := by
          cases ds with
          | nil => rfl
          | cons d ds =>
            rw [List.length_cons] at len
            simp at h1
            omega
        rw [e] at q
        exact ⟨_, rfl, iteF q⟩
    | non => exact iteF q
    | bl b => exact iteF q
    | int i => exact iteF q
    | lst _ _ => exact iteF q
    | str _ => exact iteF q
    | dic _ _ => exact iteF q
end
end K04
/-! What is a term, over data. -/
namespace K04
open PySem PySem.Spec PyProof.Rows L2 Kx
mutual
/-- how many parts, all counted -/
def szD : PyData → Nat
  | .tuple ds => szAll ds + 1
  | _ => 1
def szAll : List PyData → Nat
  | [] => 0
  | d :: ds => szD d + szAll ds
end
mutual
/-- of the form, all through -/
def formedD : PyData → Bool
  | .tuple (d :: ds) => decide (ds.length ≤ 3) && nameD d && formedAll ds
  | _ => false
def formedAll : List PyData → Bool
  | [] => true
  | d :: ds => formedD d && formedAll ds
end
abbrev NK := Str × Nat
def headD : PyData → Str
  | .str x => x
  | _ => Str.empty
mutual
/-- the names in a formed datum, with their places -/
def rowsD : PyData → List NK
  | .tuple (d :: ds) => (headD d, ds.length) :: rowsAll ds
  | _ => []
def rowsAll : List PyData → List NK
  | [] => []
  | d :: ds => rowsD d ++ rowsAll ds
end
mutual
/-- texts are short -/
def shortD : PyData → Bool
  | .str x => decide (x.length ≤ 1000)
  | .tuple ds => shortAll ds
  | _ => true
def shortAll : List PyData → Bool
  | [] => true
  | d :: ds => shortD d && shortAll ds
end
def Func (l : List NK) : Prop := ∀ p, p ∈ l → ∀ q, q ∈ l → p.1 = q.1 → p.2 = q.2
instance (l : List NK) : Decidable (Func l) := decidable_of_iff (∀ p ∈ l, ∀ q ∈ l, p.1 = q.1 → p.2 = q.2) ⟨fun h => h, fun h => h⟩
def termD (d : PyData) : Bool := formedD d && decide (Func (rowsD d))
theorem szD_pos (d : PyData) : 0 < szD d := by
  cases d <;> simp [szD]
theorem szAll_append : ∀ (l m : List PyData), szAll (l ++ m) = szAll l + szAll m
  | [], m => by simp [szAll]
  | d :: l, m => by simp [szAll, szAll_append l m, Nat.add_assoc]
theorem formedAll_append : ∀ (l m : List PyData), formedAll (l ++ m) = (formedAll l && formedAll m)
  | [], m => by simp [formedAll]
  | d :: l, m => by simp [formedAll, formedAll_append l m, Bool.and_assoc]
theorem rowsAll_append : ∀ (l m : List PyData), rowsAll (l ++ m) = rowsAll l ++ rowsAll m
  | [], m => by simp [rowsAll]
  | d :: l, m => by simp [rowsAll, rowsAll_append l m]
theorem shortAll_append : ∀ (l m : List PyData), shortAll (l ++ m) = (shortAll l && shortAll m)
  | [], m => by simp [shortAll]
  | d :: l, m => by simp [shortAll, shortAll_append l m, Bool.and_assoc]
theorem length_le_sz : ∀ l : List PyData, l.length ≤ szAll l
  | [] => Nat.le_refl _
  | d :: l => by
    have := length_le_sz l
    have := szD_pos d
    simp only [List.length_cons, szAll]
    omega
theorem Func.congr {l m : List NK} (h : ∀ p, p ∈ l ↔ p ∈ m) : Func l ↔ Func m :=
  ⟨fun f p hp q hq => f p ((h p).mpr hp) q ((h q).mpr hq), fun f p hp q hq => f p ((h p).mp hp) q ((h q).mp hq)⟩
/-- what is still to be seen: the names so far, the data that wait -/
def Todo (m : List NK) (st : List PyData) : Prop := formedAll st = true ∧ Func (m ++ rowsAll st)
theorem todo_one (d : PyData) : Todo [] [d] ↔ termD d = true := by
  simp [Todo, termD, formedAll, rowsAll]
theorem todo_bad {m : List NK} {st : List PyData} {e : PyData} (h : formD e = false) : ¬ Todo m (st ++ [e]) := by
  rintro ⟨h1, _⟩
  rw [formedAll_append] at h1
  simp [formedAll] at h1
  cases e with
  | tuple ds =>
    cases ds with
    | nil => simp [formedD] at h1
    | cons d ds =>
      simp [formD] at h
      simp [formedD] at h1
      obtain ⟨_, ⟨a, b⟩, c⟩ := h1
      have := h a
      rw [b] at this
      cases this
  | _ => simp [formedD] at h1
theorem todo_clash {m : List NK} {st ds : List PyData} {x : Str} {k : Nat} (h : (x, k) ∈ m) (hk : k ≠ ds.length) : ¬ Todo m (st ++ [.tuple (.str x :: ds)]) := by
  rintro ⟨_, h2⟩
  refine hk (h2 (x, k) (List.mem_append_left _ h) (x, ds.length) (List.mem_append_right _ ?_) rfl)
  rw [rowsAll_append]
  simp [rowsAll, rowsD, headD]
theorem todo_step {m m' : List NK} {st ds : List PyData} {x : Str} (hf : formD (.tuple (.str x :: ds)) = true) (hm : ∀ p, p ∈ m' ↔ p ∈ m ∨ p = (x, ds.length)) :
    Todo m (st ++ [.tuple (.str x :: ds)]) ↔ Todo m' (st ++ ds) := by
  unfold Todo
  rw [formedAll_append, formedAll_append, rowsAll_append, rowsAll_append]
  have e1 : formedAll [.tuple (.str x :: ds)] = formedAll ds := by
    simp [formD] at hf
    simp [formedAll, formedD, hf.1, hf.2]
  rw [e1]
  refine and_congr Iff.rfl (Func.congr fun p => ?_)
  simp only [List.mem_append, rowsAll, rowsD, headD, hm, List.append_nil, List.mem_cons]
  constructor
  · rintro (h | h | h | h)
    · exact .inl (.inl h)
    · exact .inr (.inl h)
    · exact .inl (.inr h)
    · exact .inr (.inr h)
  · rintro ((h | h) | h | h)
    · exact .inl h
    · exact .inr (.inr (.inl h))
    · exact .inr (.inl h)
    · exact .inr (.inr (.inr h))
theorem todo_done {m : List NK} (h : Func m) : Todo m [] := ⟨rfl, by simpa [rowsAll] using h⟩
end K04
/-! joint_places, is_term, is_cell, check_term. -/
namespace K04
open PySem PySem.Spec PyProof.Rows L2 Kx
theorem snocDx {K : PySem.W.Frag} {H : Hp} : ∀ {vs : List V} {st : List PyData} {e : PyData}, DxAll K H vs (st ++ [e]) → ∃ us v, vs = us ++ [v] ∧ DxAll K H us st ∧ Dx K H v e
  | _, [], e, h => by
    cases h with
    | cons a t =>
      cases t
      exact ⟨[], _, rfl, .nil, a⟩
  | _, d :: st, e, h => by
    cases h with
    | cons a t =>
      obtain ⟨us, v, rfl, q, r⟩ := snocDx t
      exact ⟨_ :: us, v, rfl, .cons a q, r⟩
theorem snoc_or {α : Type} (l : List α) : l = [] ∨ ∃ st e, l = st ++ [e] := by
  rcases List.eq_nil_or_concat l with h | ⟨st, e, h⟩
  · exact .inl h
  · exact .inr ⟨st, e, by rw [h, List.concat_eq_append]⟩
/-- a dict of names and places -/
def dictOf (m : List NK) : List (Key × V) := m.map fun p => (Sum.inr p.1, V.int p.2)
theorem val_some {x : Str} {v : V} : ∀ {m : List NK}, valV (dictOf m) (Sum.inr x) = some v → ∃ k, (x, k) ∈ m ∧ v = .int k
  | [], h => by cases h
  | p :: m, h => by
    by_cases e : p.1 = x
    · rw [show dictOf (p :: m) = (Sum.inr p.1, V.int p.2) :: dictOf m from rfl, valV_pos (by rw [e])] at h
      exact ⟨p.2, by rw [← e]; exact List.mem_cons_self, (Option.some.inj h).symm⟩
    · rw [show dictOf (p :: m) = (Sum.inr p.1, V.int p.2) :: dictOf m from rfl, valV_neg (fun z => e (Sum.inr.inj z))] at h
      obtain ⟨k, a, b⟩ := val_some h
      exact ⟨k, List.mem_cons_of_mem _ a, b⟩
theorem val_none {x : Str} : ∀ {m : List NK}, valV (dictOf m) (Sum.inr x) = none → ∀ k, (x, k) ∉ m
  | [], _, k => fun z => (nomatch z)
  | p :: m, h, k => by
    by_cases e : p.1 = x
    · rw [show dictOf (p :: m) = (Sum.inr p.1, V.int p.2) :: dictOf m from rfl, valV_pos (by rw [e])] at h
      cases h
    · rw [show dictOf (p :: m) = (Sum.inr p.1, V.int p.2) :: dictOf m from rfl, valV_neg (fun z => e (Sum.inr.inj z))] at h
      intro z
      rcases List.mem_cons.mp z with z | z
      · exact e (by rw [← z])
      · exact val_none h k z
theorem short_mem : ∀ {ds : List PyData} {y : Str}, shortAll ds = true → PyData.str y ∈ ds → y.length ≤ 1000
  | [], _, _, h => (nomatch h)
  | d :: ds, y, hs, h => by
    rw [shortAll, Bool.and_eq_true] at hs
    rcases List.mem_cons.mp h with e | h
    · rw [← e] at hs
      simpa [shortD] using hs.1
    · exact short_mem hs.2 h
theorem cut_one {xs : List V} (h : xs ≠ []) : cutV xs (some 1) none = xs.drop 1 := by
  unfold cutV
  rw [show HT.sIx xs.length 0 (some 1) = min 1 xs.length from HT.sIx_nat xs.length 0 1, HT.sIx_none]
  cases xs with
  | nil => exact absurd rfl h
  | cons x r =>
    rw [show min 1 (x :: r).length = 1 by rw [List.length_cons]; omega]
    simp
theorem iteNT {c A B : Prop} [Decidable c] (hc : ¬ c) (h : A) : if (!decide c) = true then A else B := by
  rw [decide_eq_false hc]
  exact iteT h
section
variable {P : Program} {w : World} {K : PySem.W.Frag} {mg : Str → Option Value} {base : Heap}
def spJoint (K : PySem.W.Frag) : Sp := fun vs H Q _ => ∃ (a : Addr) (x : V) (d : PyData), vs = [.ref a] ∧ SqL K H a [x] ∧ Dx K H x d ∧ shortD d = true ∧ szD d ≤ 100000 ∧
  ∀ v H', Same H H' → (termD d = false → v = .non) → (termD d = true → ∃ p, v = .ref p) → Q v H'
theorem ok_joint (T : Tx K mg) : FnOk P w K mg base CX0 3 T.ajoint_places T.djoint_places ["values"] (spJoint K) := by
  have nd := sc_joint_places.nd
  have G := ok_form (P := P) (w := w) (base := base) T
  refine T.fjoint_places.ok sc_joint_places (fun vs H Q E h => ?_) (fun cdv A outer s H vs Q E hr h => ?_)
  · obtain ⟨a, x, d, rfl, _⟩ := h
    rfl
  · obtain ⟨a, x, d, rfl, ha, hx, hs, hz, q⟩ := h
    have hu := hu_of hr
    refine ⟨_, (pss_cons (ps_set (i := 1) nd rfl (.inl rfl) pe_dnewK)
      (pss_cons (ps_set (i := 2) nd rfl (.inl rfl) (pe_callTy call_list_of (by rfl) T.b_list (by decide +kernel) (pa_cons (pv 0) pa_nil)))
      (pss_cons (ps_while PassesOwn.never (pt_truth (pv 2) (by intro _; rfl)) (pss_cons (ps_set (i := 3) nd rfl (.inl rfl) (pe_bm0 PySem.F.plainAttrs_list PySem.F.slot_list_pop PySem.F.type_list_pop mt_pop (pv 2)))
      (pss_cons (ps_if (pt_not (pt_val (pe_call G (hr.mono (by decide)) (by rfl) T.ghas_form T.fhas_form.kp T.nhas_form .nil pass0 (pa_cons (pv 3) pa_nil)))) (pss_one (ps_ret pe_non)) pss_nil)
      (pss_cons (ps_set (i := 4) nd rfl (.inl rfl) (pe_op op_sub (pe_callB call_len_seq (by rfl) T.b_len (by decide +kernel) (pa_cons (pv 3) pa_nil)) pe_int))
      (C8.pss_cut (ps_if (pt_cmpR op_ne (pe_dsetd (pv 1) (pe_ix ix_tup (pv 3) pe_int (fun _ _ => rfl)) (pv 4) ⟨by rfl, by rfl, by rfl, by rfl⟩) (pv 4) (nomark _)) (pss_one (ps_ret pe_non)) pss_nil)
      (pss_one (ps_expr (pe_bm PySem.F.plainAttrs_list PySem.F.slot_list_extend PySem.F.type_list_extend mt_extT (pv 2) (pa_cons (pe_slice sl_tupA (pv 3) (po_some pe_int) po_none) pa_nil)))))))))
      (pss_one (ps_ret (pv 1)))))), ?_⟩
    -- places = {}; waiting = list(values)
    intro pl npl
    have s1 : Same H (upd H pl (.dK [])) := same_new npl
    refine ⟨_, rfl, a, [x], rfl, .inl (s1.seq ha), fun wl nwl => ?_⟩
    have nwp : wl ≠ pl := fun e => by
      subst e
      rw [upd_same] at nwl
      cases nwl
    have nwl' : H wl = none := by rw [← nwl, upd_ne nwp]
    have s2 : Same H (upd (upd H pl (.dK [])) wl (.lst [x])) := s1.trans (same_new nwl)
    refine ⟨fun m σ H2 => (∃ y3 y4, σ = [some (.ref a), some (.ref pl), some (.ref wl), y3, y4]) ∧ ∃ (vs : List V) (st : List PyData) (ms : List NK), m = szAll st ∧ H2 wl = some (.lst vs) ∧ H2 pl = some (.dK (dictOf ms)) ∧ Same H H2 ∧ DxAll K H vs st ∧
        shortAll st = true ∧ ms.length + szAll st ≤ 100000 ∧ Func ms ∧ (termD d = true ↔ Todo ms st),
      ⟨szAll [d], ⟨none, none, rfl⟩, [x], [d], [], rfl, upd_same, ?_, s2, .cons hx .nil, by simp [shortAll, hs], by simpa [szAll] using hz, fun p hp => (nomatch hp), (todo_one d).symm⟩, ?_⟩
    · rw [upd_ne nwp.symm, upd_same]
      rfl
    rintro m σ H2 ⟨⟨y3, y4, rfl⟩, vs, st, ms, rfl, ew, ep, sm, dx, sh, bd, fn, iff⟩
    refine ⟨_, rfl, _, .inl ⟨vs, .inl (.inl ew), rfl⟩, ?_⟩
    rcases snoc_or st with rfl | ⟨st, e, rfl⟩
    · -- nothing waits
      cases dx
      refine iteF ⟨_, rfl, q _ _ sm (fun z => ?_) fun _ => ⟨pl, rfl⟩⟩
      rw [iff.mpr (todo_done fn)] at z
      cases z
    obtain ⟨us, v, rfl, dx', hv⟩ := snocDx dx
    have ne : (!(us ++ [v]).isEmpty) = true := by cases us <;> rfl
    rw [ne]
    rw [shortAll_append, Bool.and_eq_true] at sh
    have she : shortD e = true := by simpa [shortAll] using sh.2
    refine iteT ⟨fun σ' H' => ∃ m', m' < szAll (st ++ [e]) ∧ _, fun _ _ h => h, ?_⟩
    -- part = waiting.pop()
    refine ⟨_, rfl, .inl ⟨rfl, _, .inl (.inl ew)⟩, wl, _, v, rfl, rfl, ew, by simp, ?_⟩
    rw [List.dropLast_concat]
    have sm3 : Same H (upd H2 wl (.lst us)) := fun c o hc => by
      rw [upd_ne (ne_of_none hc nwl')]
      exact sm c o hc
    -- if not has_form(part): return None
    refine ⟨_, rfl, v, e, rfl, hv.up sm3, fun ds he y hy => ?_, _, rfl, ?_⟩
    · subst he
      refine Nat.le_trans (short_mem (by simpa [shortD] using she) hy) (by decide)
    cases hf : formD e with
    | false =>
      refine iteT (q .non _ sm3 (fun _ => rfl) fun z => ?_)
      exact absurd (iff.mp z) (todo_bad hf)
    | true =>
      obtain ⟨x1, es, rfl⟩ : ∃ x1 es, e = .tuple (.str x1 :: es) := by
        cases e with
        | tuple ds =>
          cases ds with
          | nil => cases hf
          | cons d0 ds =>
            simp only [formD, Bool.and_eq_true] at hf
            cases d0 with
            | str z => exact ⟨z, ds, rfl⟩
            | _ => cases hf.2
        | _ => cases hf
      cases hv with
      | tup hb hxs =>
      rename_i b xs
      cases hxs with
      | cons h0 hw =>
      rename_i v0 ws
      cases h0
      have lw := hw.length
      have l3 : es.length ≤ 3 := by
        simp only [formD, Bool.and_eq_true, decide_eq_true_eq] at hf
        exact hf.1
      -- many = len(part) - 1
      refine iteF ⟨_, rfl, b, _, rfl, .inr (SqT.of (sm3 _ _ hb)), _, 1, rfl, rfl, ?_⟩
      have em : ((V.str x1 :: ws).length : Int) - 1 = (es.length : Int) := by
        rw [List.length_cons]
        omega
      dsimp only
      rw [em]
      have ep3 : (upd H2 wl (.lst us)) pl = some (.dK (dictOf ms)) := by rw [upd_ne nwp.symm]; exact ep
      rw [szAll_append] at bd
      have z1 : szAll [PyData.tuple (.str x1 :: es)] = szAll es + 2 := by simp [szAll, szD]; omega
      rw [z1] at bd
      have lm : (dictOf ms).length < sizeLine := by
        rw [dictOf, List.length_map]
        exact Nat.lt_of_le_of_lt (show ms.length ≤ 100000 by omega) (by decide)
      have f0 : ∀ k, (x1, k) ∈ ms → k = es.length → Func ms := fun _ _ _ => fn
      -- places.setdefault(part[0], many) != many
      refine ⟨fun σ' H' => σ' = [some (.ref a), some (.ref pl), some (.ref wl), some (.ref b), some (.int es.length)] ∧ H' wl = some (.lst us) ∧ Same H H' ∧ ∃ ms', H' pl = some (.dK (dictOf ms')) ∧ (∀ p, p ∈ ms' ↔ p ∈ ms ∨ p = (x1, es.length)) ∧ Func ms' ∧ ms'.length ≤ ms.length + 1, ?_, ?_⟩
      · refine ⟨_, rfl, pl, rfl, .inl ⟨_, .inl ep3⟩, _, rfl, b, _, 0, _, rfl, rfl, SqT.of (sm3 _ _ hb), atI_nat (j := 0) rfl, _, rfl, dictOf ms, Sum.inr x1, ep3, rfl, lm, fun y hy => ?_, fun hy => ?_⟩
        · -- the name is there
          obtain ⟨k, mem, rfl⟩ := val_some hy
          by_cases hk : k = es.length
          · subst hk
            refine ⟨_, rfl, rfl, _, rfl, iteNS rfl ⟨rfl, upd_same, sm3, ms, ep3, fun p => ⟨.inl, fun z => ?_⟩, fn, Nat.le_succ _⟩⟩
            rcases z with z | z
            · exact z
            · rw [z]
              exact mem
          · refine ⟨_, rfl, rfl, _, rfl, iteNT (fun z => hk ?_) (q .non _ sm3 (fun _ => rfl) fun z => ?_)⟩
            · have := V.int.inj z
              omega
            · exact absurd (iff.mp z) (todo_clash mem hk)
        · -- a new name
          have nk := val_none hy
          have npl' : H pl = none := npl
          refine ⟨_, rfl, rfl, _, rfl, iteNS rfl ⟨rfl, ?_, fun c o hc => ?_, ms ++ [(x1, es.length)], ?_, fun p => ?_, ?_, ?_⟩⟩
          · rw [upd_ne nwp, upd_same]
          · rw [upd_ne (ne_of_none hc npl')]
            exact sm3 c o hc
          · rw [upd_same, putK_new _ hy]
            simp [dictOf]
          · simp
          · rintro ⟨p1, p2⟩ hp ⟨r1, r2⟩ hr' e
            have e' : p1 = r1 := e
            subst e'
            simp only [List.mem_append, List.mem_singleton, Prod.mk.injEq] at hp hr'
            rcases hp with hp | ⟨g1, g2⟩
            · rcases hr' with hr' | ⟨g3, g4⟩
              · exact fn _ hp _ hr' rfl
              · subst g3
                exact absurd hp (nk _)
            · rcases hr' with hr' | ⟨g3, g4⟩
              · subst g1
                exact absurd hr' (nk _)
              · rw [g2, g4]
          · simp
      rintro σ' H' ⟨rfl, ew', sm', ms', ep', mem', fn', len'⟩
      -- waiting.extend(part[1:])
      refine ⟨_, rfl, .inl ⟨rfl, _, .inl (.inl ew')⟩, _, rfl, 1, rfl, b, _, rfl, SqT.of (sm' _ _ hb), fun z => ?_, fun _ c nc => ?_⟩
      · exfalso
        have := z.1
        rw [show HT.sIx (V.str x1 :: ws).length 0 (some 1) = min 1 (V.str x1 :: ws).length from HT.sIx_nat _ 0 1, List.length_cons] at this
        omega
      have nwc : wl ≠ c := fun e => by
        rw [← e, ew'] at nc
        cases nc
      have npc : pl ≠ c := fun e => by
        rw [← e, ep'] at nc
        cases nc
      have lus := dx'.length
      have lst := length_le_sz st
      refine ⟨wl, c, us, ws, rfl, rfl, by rw [upd_ne nwc]; exact ew', ?_, ?_, ?_⟩
      · rw [cut_one (by simp)]
        exact SqT.of upd_same
      · exact Nat.le_trans (show us.length + ws.length ≤ 100003 by omega) (by decide)
      · refine ⟨szAll (st ++ es), ?_, ⟨_, _, rfl⟩, us ++ ws, st ++ es, ms', rfl, upd_same, ?_, fun d o hd => ?_, DxAll.append dx' hw, ?_, ?_, fn', iff.trans (todo_step hf mem')⟩
        · rw [szAll_append, szAll_append, z1]
          omega
        · rw [upd_ne nwp.symm, upd_ne npc]
          exact ep'
        · rw [upd_ne (ne_of_none hd nwl'), upd_ne]
          · exact sm' d o hd
          · rintro rfl
            rw [sm' _ _ hd] at nc
            cases nc
        · rw [shortAll_append, sh.1]
          have z : x1.length ≤ 1000 ∧ shortAll es = true := by simpa [shortD, shortAll] using she
          simpa using z.2
        · rw [szAll_append]
          omega
end
end K04
/-! is_term, is_cell, check_term, make_term, make_cells. -/
namespace Kx
open PySem PySem.Spec PyProof.Rows L2
section
variable {X : Cx} {CX : CXT} {k : Nat} {f : Addr} {sp : Sp} {E : XK} {x : Str} {e : Expr} {es : List Expr} {t : TA} {p pos : Pos}
/-- f(e, ..), f a def with a star -/
theorem pe_callR (F : L2.FnR X.prog X.w X.K X.mg X.base CX k f sp) (hr : Room k X.A) (hg : Gl X x) (hm : X.mg x = some (.ref f)) (hk : PySem.W.keepIn X.K (.ref f) = true) (hx : Passes CX X E) (ha : PA X (e :: es) t) (hd : (x == ("__debug__" : Str)) = false := by decide)
    (he : starEach (e :: es) X.env = (false, eval e X.env) :: starEach es X.env := by rfl) (hpl : (backTo pos (starEach es X.env)).any (·.1) = false := by rfl) :
    PE X (.Call (.Name x p) (e :: es) [] pos) (tCall sp [] E t) := by
  refine ⟨fun pins s σ H Q I h => wpAny_Call_Name_kw (ld_glob I hg hm ?_ hd)⟩
  refine PySem.W.callWith_K (h₀ := X.base) I.ok.mod.kin hk (thn (ha.run pos pins s σ H _ I h) ?_) he hpl
  rintro us s1 ⟨vs, H1, I1, r, q⟩
  rw [List.append_nil] at q
  exact ⟨I1.kIn, wpAny_call (run_fnR F hr hx I1 r q)⟩
theorem pe_callR0 (F : L2.FnR X.prog X.w X.K X.mg X.base CX k f sp) (hr : Room k X.A) (hg : Gl X x) (hm : X.mg x = some (.ref f)) (hk : PySem.W.keepIn X.K (.ref f) = true) (hx : Passes CX X E) (hd : (x == ("__debug__" : Str)) = false := by decide) :
    PE X (.Call (.Name x p) [] [] pos) (tCall sp [] E tNil) := by
  refine ⟨fun pins s σ H Q I h => wpAny_Call_Name_kw (ld_glob I hg hm ?_ hd)⟩
  exact PySem.W.callWith_K0 I.kIn hk (wpAny_call (run_fnR F hr hx I .nil h))
end
end Kx
namespace K04
open PySem PySem.Spec PyProof.Rows L2 Kx
def cellD : PyData → Bool
  | .tuple ds => termD (.tuple ds) && decide (ds.length = 1)
  | _ => false
theorem cellD_eq {d : PyData} (h : termD d = true) : ∃ ds, d = .tuple ds := by
  cases d with
  | tuple ds => exact ⟨ds, rfl⟩
  | _ => simp [termD, formedD] at h
section
variable {P : Program} {w : World} {K : PySem.W.Frag} {mg : Str → Option Value} {base : Heap}
/-- x stands for d, of a bounded size -/
def Dz (K : PySem.W.Frag) (H : Hp) (x : V) (d : PyData) : Prop := Dx K H x d ∧ shortD d = true ∧ szD d ≤ 100000
theorem Dz.up {H H' : Hp} {x : V} {d : PyData} (h : Dz K H x d) (e : Same H H') : Dz K H' x d := ⟨h.1.up e, h.2⟩
def spTerm (K : PySem.W.Frag) : Sp := fun vs H Q _ => ∃ (x : V) (d : PyData), vs = [x] ∧ Dz K H x d ∧ ∀ H', Same H H' → Q (.bl (termD d)) H'
theorem ok_term (T : Tx K mg) : FnOk P w K mg base CX0 4 T.ais_term T.dis_term ["value"] (spTerm K) := by
  have nd := sc_is_term.nd
  have G := ok_joint (P := P) (w := w) (base := base) T
  refine T.fis_term.ok sc_is_term (fun vs H Q E h => ?_) (fun cdv A outer s H vs Q E hr h => ?_)
  · obtain ⟨x, d, rfl, _⟩ := h
    rfl
  · obtain ⟨x, d, rfl, ⟨hx, hs, hz⟩, q⟩ := h
    refine ⟨_, (pss_one (ps_ret (pe_cmpR op_notN (pe_call G (hr.mono (by decide)) (by rfl) T.gjoint_places T.fjoint_places.kp T.njoint_places .nil pass0 (pa_cons (pe_lst (pa_cons (pv 0) pa_nil)) pa_nil)) pe_non (nomark _)))), ?_⟩
    refine ⟨_, rfl, (by show 1 ≤ sizeLine; decide), fun p np => ?_⟩
    refine ⟨p, x, d, rfl, .inl (.inl upd_same), hx.up (same_new np), hs, hz, fun v H' sm n1 n2 => ⟨rfl, ?_⟩⟩
    have fin := q H' ((same_new np).trans sm)
    cases e : termD d with
    | false =>
      rw [e] at fin
      rw [n1 e]
      exact fin
    | true =>
      rw [e] at fin
      obtain ⟨c, ec⟩ := n2 e
      rw [ec]
      exact fin
def spCheck (K : PySem.W.Frag) : Sp := fun vs H Q _ => ∃ (x : V) (d : PyData), vs = [x] ∧ Dz K H x d ∧ termD d = true ∧ ∀ H', Same H H' → Q .non H'
theorem ok_check (T : Tx K mg) : FnOk P w K mg base CX0 5 T.acheck_term T.dcheck_term ["value"] (spCheck K) := by
  have nd := sc_check_term.nd
  have G := ok_term (P := P) (w := w) (base := base) T
  refine T.fcheck_term.ok sc_check_term (fun vs H Q E h => ?_) (fun cdv A outer s H vs Q E hr h => ?_)
  · obtain ⟨x, d, rfl, _⟩ := h
    rfl
  · obtain ⟨x, d, rfl, hx, ht, q⟩ := h
    refine ⟨_, (pss_one (ps_if (pt_not (pt_val (pe_call G (hr.mono (by decide)) (by rfl) T.gis_term T.fis_term.kp T.nis_term .nil pass0 (pa_cons (pv 0) pa_nil)))) (pss_one ps_never) pss_nil)), ?_⟩
    refine ⟨_, rfl, x, d, rfl, hx, fun H' sm => ⟨_, rfl, ?_⟩⟩
    rw [ht]
    exact iteF (q H' sm)
end
end K04
/-! The parts of a term, listed. -/
namespace K04
open PySem PySem.Spec PyProof.Rows L2 Kx
abbrev Sub := Addr × Str × List V
def rowOf (z : Sub) : NK := (z.2.1, z.2.2.length)
/-- a list of the parts zs at f -/
def SubsAt (H : Hp) (f : Addr) (zs : List Sub) : Prop := H f = some (.lst (zs.map fun z => V.ref z.1)) ∧ ∀ z, z ∈ zs → H z.1 = some (.tup (.str z.2.1 :: z.2.2))
theorem SubsAt.up {H H' : Hp} {f : Addr} {zs : List Sub} (h : SubsAt H f zs) (e : Same H H') : SubsAt H' f zs := ⟨e _ _ h.1, fun z hz => e _ _ (h.2 z hz)⟩
theorem formed_shape {d : PyData} (h : formedD d = true) : ∃ x ds, d = .tuple (.str x :: ds) ∧ ds.length ≤ 3 ∧ isNm x = true ∧ formedAll ds = true := by
  cases d with
  | tuple ds =>
    cases ds with
    | nil => cases h
    | cons d0 ds =>
      simp only [formedD, Bool.and_eq_true, decide_eq_true_eq] at h
      cases d0 with
      | str z => exact ⟨z, ds, rfl, h.1.1, h.1.2, h.2⟩
      | _ => cases h.1.2
  | _ => cases h
theorem formedAll_get : ∀ {ds : List PyData} {i : Nat} {d : PyData}, formedAll ds = true → ds[i]? = some d → formedD d = true
  | [], _, _, _, h => by simp at h
  | x :: ds, 0, d, hf, h => by
    simp at h
    rw [formedAll, Bool.and_eq_true, h] at hf
    exact hf.1
  | x :: ds, i + 1, d, hf, h => by
    rw [formedAll, Bool.and_eq_true] at hf
    exact formedAll_get hf.2 (by simpa using h)
theorem depthAll_get : ∀ {ds : List PyData} {i : Nat} {d : PyData}, ds[i]? = some d → d.depth ≤ PyData.depthAll ds
  | [], _, _, h => by simp at h
  | x :: ds, 0, d, h => by
    simp at h
    rw [h, PyData.depthAll]
    omega
  | x :: ds, i + 1, d, h => by
    have := depthAll_get (ds := ds) (i := i) (d := d) (by simpa using h)
    rw [PyData.depthAll]
    omega
theorem rowsAll_take : ∀ {ds : List PyData} {i : Nat} {d : PyData}, ds[i]? = some d → rowsAll (ds.take (i + 1)) = rowsAll (ds.take i) ++ rowsD d
  | ds, i, d, h => by
    rw [List.take_add_one, h, rowsAll_append]
    simp [rowsAll]
theorem rowsAll_take_le : ∀ (ds : List PyData) (i : Nat), (rowsAll (ds.take i)).length ≤ (rowsAll ds).length
  | ds, i => by
    have e := List.take_append_drop i ds
    have z : rowsAll (ds.take i ++ ds.drop i) = rowsAll ds := by rw [e]
    rw [rowsAll_append] at z
    rw [← z, List.length_append]
    omega
section
variable {P : Program} {w : World} {K : PySem.W.Frag} {mg : Str → Option Value} {base : Heap}
def spBelow (K : PySem.W.Frag) (n : Nat) : Sp := fun vs H Q _ => ∃ (x : V) (d : PyData), vs = [x] ∧ Dx K H x d ∧ formedD d = true ∧ d.depth ≤ n ∧ (rowsD d).length ≤ 1000 ∧
  ∀ p H' (zs : List Sub), Same H H' → H p = none → SubsAt H' p zs → (zs.map rowOf).Perm (rowsD d) → Q (.ref p) H'
theorem ok_below (T : Tx K mg) : ∀ n, FnOk P w K mg base CX0 (n + 1) T.a_law_below T.d_law_below ["term"] (spBelow K n)
  | 0 => by
    refine T.f_law_below.ok sc__law_below (fun vs H Q E h => ?_) (fun cdv A outer s H vs Q E hr h => ?_)
    · obtain ⟨x, d, rfl, _⟩ := h
      rfl
    · exfalso
      obtain ⟨x, d, rfl, hx, hf, hd, _⟩ := h
      obtain ⟨z, ds, rfl, _⟩ := formed_shape hf
      simp [PyData.depth] at hd
  | n + 1 => by
    have nd := sc__law_below.nd
    have G := ok_below T n
    refine T.f_law_below.ok sc__law_below (fun vs H Q E h => ?_) (fun cdv A outer s H vs Q E hr h => ?_)
    · obtain ⟨x, d, rfl, _⟩ := h
      rfl
    · obtain ⟨x, d, rfl, hx, hf, hd, hl, q⟩ := h
      obtain ⟨nm, ds, rfl, l3, hnm, hfa⟩ := formed_shape hf
      cases hx with
      | tup ha hs =>
      rename_i a xs
      cases hs with
      | cons h0 hw =>
      rename_i v0 ws
      cases h0
      have lw := hw.length
      have hdd : PyData.depthAll ds ≤ n := by
        simp only [PyData.depth, PyData.depthAll] at hd
        omega
      refine ⟨_, (pss_cons (ps_set (i := 1) nd rfl (.inl rfl) (pe_lst pa_nil))
      (pss_cons (ps_for PassesOwn.never rfl (pi_tup (pe_slice sl_tupA (pv 0) (po_some pe_int) po_none)) (pg_name (i := 2) nd rfl (.inl rfl)) (pss_one (ps_set (i := 1) nd rfl (.inl rfl) (pe_op op_cat (pv 1) (pe_call G (hr.mono (by omega)) (by rfl) T.g_law_below T.f_law_below.kp T.n_law_below .nil pass0 (pa_cons (pv 2) pa_nil))))))
      (pss_one (ps_ret (pe_op op_cat (pv 1) (pe_lst (pa_cons (pv 0) pa_nil))))))), ?_⟩
      refine ⟨Nat.zero_le _, fun f nf => ?_⟩
      have s1 : Same H (upd H f (.lst [])) := same_new nf
      refine ⟨_, rfl, 1, rfl, a, _, rfl, SqT.of (s1 _ _ ha), fun z => ?_, fun _ c nc => ?_⟩
      · exfalso
        have := z.1
        rw [show HT.sIx (V.str nm :: ws).length 0 (some 1) = min 1 (V.str nm :: ws).length from HT.sIx_nat _ 0 1, List.length_cons] at this
        omega
      rw [cut_one (by simp), List.drop_one, List.tail_cons]
      have s2 : Same H (upd (upd H f (.lst [])) c (.tup ws)) := s1.trans (same_new nc)
      have nfc : f ≠ c := fun e => by
        rw [← e, upd_same] at nc
        cases nc
      refine ⟨c, rfl, ⟨_, SqT.of upd_same⟩, for_tup (K := K) (a := c) (xs := ws) (fun i σ H3 => Same H H3 ∧ H3 c = some (.tup ws) ∧ ∃ (g : Addr) (zs : List Sub) (y : Option V), σ = [some (.ref a), some (.ref g), y] ∧ SubsAt H3 g zs ∧ (zs.map rowOf).Perm (rowsAll (ds.take i)))
        ⟨s2, upd_same, f, [], none, rfl, ⟨by rw [upd_ne nfc, upd_same]; rfl, fun z hz => (nomatch hz)⟩, by simp [rowsAll]⟩ (fun i σ H3 _ h => SqT.of h.2.1) ?_ ?_⟩
      · rintro i y σ H3 hi ⟨sm, ec, g, zs, y0, rfl, sa, pm⟩
        have lt : i < ds.length := by
          rw [← lw]
          exact (List.getElem?_eq_some_iff.mp hi).1
        obtain ⟨v, hv, hx⟩ := hw.get (List.getElem?_eq_getElem lt)
        rw [hi] at hv
        cases hv
        have gd := List.getElem?_eq_getElem lt
        have le1 := rowsAll_take_le ds i
        have le2 := rowsAll_take_le ds (i + 1)
        rw [rowsAll_take gd, List.length_append] at le2
        have lr : (rowsD (.tuple (.str nm :: ds))).length = (rowsAll ds).length + 1 := by simp [rowsD]
        rw [lr] at hl
        have lz : zs.length = (rowsAll (ds.take i)).length := by rw [← pm.length_eq, List.length_map]
        refine ⟨_, rfl, _, rfl, _, _, rfl, hx.up sm, formedAll_get hfa gd, Nat.le_trans (depthAll_get gd) hdd, by omega, fun p H4 zs2 sm4 np sa2 pm2 => ?_⟩
        have lz2 : zs2.length = (rowsD ds[i]).length := by rw [← pm2.length_eq, List.length_map]
        have sa4 := sa.up sm4
        refine ⟨g, p, _, _, rfl, rfl, sa4.1, sa2.1, ?_, fun e ne => ?_⟩
        · rw [List.length_map, List.length_map]
          exact Nat.le_trans (show zs.length + zs2.length ≤ 1000 by omega) (by decide)
        · have sme := same_new (o := .lst ((zs.map fun z => V.ref z.1) ++ zs2.map fun z => V.ref z.1)) ne
          refine ⟨sm.trans (sm4.trans sme), sme _ _ (sm4 _ _ ec), e, zs ++ zs2, _, rfl, ⟨by rw [upd_same, List.map_append], fun z hz => ?_⟩, ?_⟩
          · rcases List.mem_append.mp hz with h | h
            · exact sme _ _ (sa4.2 z h)
            · exact sme _ _ (sa2.2 z h)
          · rw [rowsAll_take gd, List.map_append]
            exact pm.append pm2
      · rintro σ H3 ⟨sm, ec, g, zs, y, rfl, sa, pm⟩
        rw [lw, List.take_length] at pm
        have lz : zs.length = (rowsAll ds).length := by rw [← pm.length_eq, List.length_map]
        have lr : (rowsD (.tuple (.str nm :: ds))).length = (rowsAll ds).length + 1 := by simp [rowsD]
        refine ⟨_, rfl, _, rfl, (by show 1 ≤ sizeLine; decide), fun e ne => ?_⟩
        have sme := same_new (o := .lst [V.ref a]) ne
        refine ⟨g, e, _, _, rfl, rfl, (sa.up sme).1, upd_same, ?_, fun p np => ?_⟩
        · rw [List.length_map]
          exact Nat.le_trans (show zs.length + 1 ≤ 1001 by omega) (by decide)
        have smp := same_new (o := .lst ((zs.map fun z => V.ref z.1) ++ [V.ref a])) np
        have smA := sm.trans (sme.trans smp)
        refine q p _ (zs ++ [(a, nm, ws)]) smA ?_ ⟨by rw [upd_same, List.map_append]; rfl, fun z hz => ?_⟩ ?_
        · exact (sm.trans sme).free np
        · rcases List.mem_append.mp hz with h | h
          · exact (sa.up (sme.trans smp)).2 z h
          · rw [List.mem_singleton.mp h]
            exact smA _ _ ha
        · rw [List.map_append, rowsD]
          refine (pm.append_right _).trans ?_
          have e1 : [(a, nm, ws)].map rowOf = [(headD (.str nm), ds.length)] := by simp [rowOf, headD, lw]
          rw [e1]
          exact List.perm_append_singleton _ _
end
end K04
/-! The names of a turn. -/
namespace K04
open PySem PySem.Spec PyProof.Rows L2 Kx
/-- the heap without a -/
def Off (a : Addr) (H : Hp) : Hp := fun b => if b = a then none else H b
theorem Off.ne {a b : Addr} {H : Hp} (h : b ≠ a) : Off a H b = H b := if_neg h
theorem Off.of {a b : Addr} {H : Hp} {o : HO} (h : Off a H b = some o) : b ≠ a ∧ H b = some o := by
  unfold Off at h
  by_cases e : b = a
  · rw [if_pos e] at h
    cases h
  · rw [if_neg e] at h
    exact ⟨e, h⟩
theorem Off.same {a : Addr} {H : Hp} : Same (Off a H) H := fun b o h => (Off.of h).2
theorem But.off {a : Addr} {H H' : Hp} (h : But a H H') : Same (Off a H) (Off a H') := fun b o e => by
  obtain ⟨n, e⟩ := Off.of e
  rw [Off.ne n]
  exact h b o e n
abbrev Rw := Addr × NK
def rowO (r : NK) : HO := .tup [.str r.1, .int (r.2 : Int)]
/-- a list of rows at f -/
def RowsIn (H : Hp) (f : Addr) (zs : List Rw) : Prop := H f = some (.lst (zs.map fun z => V.ref z.1)) ∧ ∀ z, z ∈ zs → H z.1 = some (rowO z.2)
theorem RowsIn.up {H H' : Hp} {f : Addr} {zs : List Rw} (h : RowsIn H f zs) (e : Same H H') : RowsIn H' f zs := ⟨e _ _ h.1, fun z hz => e _ _ (h.2 z hz)⟩
theorem RowsIn.snoc {H : Hp} {f q : Addr} {zs : List Rw} {r : NK} (h : RowsIn H f zs) (n : H q = none) : RowsIn (upd (upd H q (rowO r)) f (.lst ((zs.map fun z => V.ref z.1) ++ [V.ref q]))) f (zs ++ [(q, r)]) := by
  have nf : q ≠ f := fun e => by
    rw [e, h.1] at n
    cases n
  refine ⟨by rw [upd_same, List.map_append]; rfl, fun z hz => ?_⟩
  rcases List.mem_append.mp hz with hz | hz
  · have := h.2 z hz
    rw [upd_ne (ne_of this h.1 (fun e => nomatch e)), upd_ne (ne_of_none this n)]
    exact this
  · rw [List.mem_singleton.mp hz, upd_ne nf, upd_same]
theorem RowsIn.len {zs : List Rw} : (zs.map fun z => V.ref z.1).length = zs.length := List.length_map ..
theorem Dice.ne {H : Hp} {a b : Addr} {n : Nat} (d : Dice H a n) (h : H b = none) : b ≠ a := fun e => by
  obtain ⟨_, _, _, z, _⟩ := d
  rw [e, z] at h
  cases h
theorem Dice.put {H : Hp} {a b : Addr} {n : Nat} {o : HO} (d : Dice H a n) (h : b ≠ a) : Dice (upd H b o) a n := d.same (upd_ne h.symm)
theorem But.free {a b : Addr} {H H' : Hp} (x : But a H H') (n : b ≠ a) (h : H' b = none) : H b = none := by
  cases e : H b with
  | none => rfl
  | some o =>
    rw [x b o e n] at h
    cases h
theorem But.put {a b : Addr} {H H' : Hp} {o : HO} (x : But a H H') (h : H b = none) : But a H (L2.upd H' b o) := fun c u hc nc => by
  rw [upd_ne (ne_of_none hc h)]
  exact x c u hc nc
theorem RowsIn.but {H H' : Hp} {a f : Addr} {n : Nat} {zs : List Rw} (h : RowsIn H f zs) (x : But a H H') (d : Dice H a n) (nf : f ≠ a) : RowsIn H' f zs := by
  obtain ⟨_, _, _, hz, _⟩ := d
  exact ⟨x _ _ h.1 nf, fun z m => x _ _ (h.2 z m) (ne_of (h.2 z m) hz (fun e => nomatch e))⟩
/-- good rows: names, few places, each name with its places; one without places -/
structure Good (l : List NK) : Prop where
  nm : ∀ r, r ∈ l → isNm r.1 = true ∧ r.2 ≤ 3
  fn : Func l
  cell : ∃ r, r ∈ l ∧ r.2 = 0
  few : l.length ≤ 20
theorem Good.perm {l m : List NK} (g : Good l) (h : l.Perm m) : Good m := by
  refine ⟨fun r hr => g.nm r (h.mem_iff.mpr hr), (Func.congr fun p => h.mem_iff).mp g.fn, ?_, by rw [← h.length_eq]; exact g.few⟩
  obtain ⟨r, hr, e⟩ := g.cell
  exact ⟨r, h.mem_iff.mp hr, e⟩
def pools : List (List Str) := [["a", "b", "c", "d"], ["a", "ab", "b", "ba"], ["x", "xin", "xout", "y"]]
def funcs : List Str := ["f", "g", "gg", "zzzzzzzz"]
theorem pools_ok : ∀ l, l ∈ pools → l.length = 4 ∧ ∀ x, x ∈ l → isNm x = true ∧ x ∉ funcs := by decide +kernel
theorem funcs_ok : funcs.Nodup ∧ ∀ x, x ∈ funcs → isNm x = true := by decide +kernel
theorem cut_upto {xs : List V} {i : Int} (h : 0 ≤ i) : cutV xs none (some i) = xs.take i.toNat := by
  obtain ⟨n, rfl⟩ := Int.eq_ofNat_of_zero_le h
  unfold cutV
  rw [show HT.sIx xs.length xs.length (some (n : Int)) = min n xs.length from HT.sIx_nat xs.length xs.length n, show HT.sIx xs.length 0 none = 0 from rfl, List.drop_zero, Nat.sub_zero, Int.toNat_natCast]
  by_cases e : n ≤ xs.length
  · rw [Nat.min_eq_left e]
  · rw [Nat.min_eq_right (by omega), List.take_length, List.take_of_length_le (by omega)]
theorem perm_back {α β : Type} {f : α → β} {l ys : List β} (h : l.Perm ys) : ∀ zs : List α, l = zs.map f → ∃ ws : List α, ws.Perm zs ∧ ys = ws.map f := by
  induction h with
  | nil =>
    intro zs e
    cases zs with
    | nil => exact ⟨[], List.Perm.refl _, rfl⟩
    | cons z zs => cases e
  | cons x _ ih =>
    intro zs e
    cases zs with
    | nil => cases e
    | cons z zs =>
      rw [List.map_cons] at e
      injection e with e1 e2
      obtain ⟨ws, p, q⟩ := ih zs e2
      exact ⟨z :: ws, p.cons z, by rw [List.map_cons, q, e1]⟩
  | swap x y l =>
    intro zs e
    cases zs with
    | nil => cases e
    | cons z zs =>
      cases zs with
      | nil => cases e
      | cons z2 zs =>
        rw [List.map_cons, List.map_cons] at e
        injection e with e1 e2
        injection e2 with e2 e3
        exact ⟨z2 :: z :: zs, List.Perm.swap _ _ _, by rw [List.map_cons, List.map_cons, e1, e2, e3]⟩
  | trans _ _ ih1 ih2 =>
    intro zs e
    obtain ⟨ws, p, q⟩ := ih1 zs e
    obtain ⟨vs, p2, q2⟩ := ih2 ws q
    exact ⟨vs, p2.trans p, q2⟩
theorem nodup_inj {α β : Type} {f : α → β} : ∀ {l : List α} {x y : α}, (l.map f).Nodup → x ∈ l → y ∈ l → f x = f y → x = y
  | [], _, _, _, h, _, _ => nomatch h
  | z :: l, x, y, nd, hx, hy, e => by
    rw [List.map_cons, List.nodup_cons] at nd
    rcases List.mem_cons.mp hx with h1 | h1
    · rcases List.mem_cons.mp hy with h2 | h2
      · rw [h1, h2]
      · exact absurd (List.mem_map.mpr ⟨y, h2, by rw [← e, h1]⟩) nd.1
    · rcases List.mem_cons.mp hy with h2 | h2
      · exact absurd (List.mem_map.mpr ⟨x, h1, by rw [e, h2]⟩) nd.1
      · exact nodup_inj nd.2 h1 h2 e
/-- a row as an item to be sorted -/
def rowI (z : Rw) : V × PyData := (V.ref z.1, PyData.tuple [.str z.2.1, .int (z.2.2 : Int)])
section
variable {P : Program} {w : World} {K : PySem.W.Frag} {mg : Str → Option Value} {base : Heap}
def spNames (K : PySem.W.Frag) : Sp := fun vs H Q _ => ∃ (a : Addr) (n : Nat), vs = [.ref a, .int 3] ∧ Dice H a n ∧ n + 100 < cap ∧
  ∀ (p : Addr) (zs : List Rw) H', But a H H' → Dice H' a (n + 100) → H p = none → p ≠ a → RowsIn H' p zs → Good (zs.map Prod.snd) → Q (.ref p) H'
theorem ok_names (T : Tx K mg) : FnOk P w K mg base CX0 3 T.a_law_names T.d_law_names ["dice", "few"] (spNames K) := by
  have nd := sc__law_names.nd
  have G1 := ok_roll (P := P) (w := w) (base := base) T
  have G2 := ok_pick (P := P) (w := w) (base := base) T
  have G3 := ok_mixed (P := P) (w := w) (base := base) T
  refine T.f_law_names.ok sc__law_names (fun vs H Q E h => ?_) (fun cdv A outer s H vs Q E hr h => ?_)
  · obtain ⟨a, n, rfl, _⟩ := h
    rfl
  · obtain ⟨a, n, rfl, hd, hn, q⟩ := h
    refine ⟨_, (pss_cons (ps_set (i := 2) nd rfl (.inl rfl) (pe_lst (pa_cons (pe_lst (pa_cons pe_str (pa_cons pe_str (pa_cons pe_str (pa_cons pe_str pa_nil))))) (pa_cons (pe_lst (pa_cons pe_str (pa_cons pe_str (pa_cons pe_str (pa_cons pe_str pa_nil))))) (pa_cons (pe_lst (pa_cons pe_str (pa_cons pe_str (pa_cons pe_str (pa_cons pe_str pa_nil))))) pa_nil)))))
      (C8.pss_cut (ps_set (i := 3) nd rfl (.inl rfl) (pe_call G3 (hr.mono (by omega)) (by rfl) T.g_law_mixed T.f_law_mixed.kp T.n_law_mixed .nil pass0 (pa_cons (pv 0) (pa_cons (pe_call G2 (hr.mono (by omega)) (by rfl) T.g_law_pick T.f_law_pick.kp T.n_law_pick .nil pass0 (pa_cons (pv 0) (pa_cons (pv 2) pa_nil))) pa_nil))))
      (pss_cons (ps_setLc (i := 5) (own := [("name", 4)]) (g := (gName 4)) (tt := tYes) (by rfl) nd rfl rfl (sw_true rfl rfl rfl (by decide +kernel)) (pi_list (pe_slice sl_list (pv 3) po_none (po_some (pe_op op_add pe_int (pe_call G1 (hr.mono (by omega)) (by rfl) T.g_law_roll T.f_law_roll.kp T.n_law_roll .nil pass0 (pa_cons (pv 0) (pa_cons pe_int pa_nil))))))) (blkOk_by (own := [("name", 4)]) (N := N__law_names) (sc := defScope s__law_names) (by decide +kernel)) (fun _ _ _ _ _ => pg_name (i := 4) nd rfl (.inl rfl)) (fun _ _ _ _ _ => pts_nil) (fun _ _ _ _ _ => (pe_tup (pa_cons (pv 4) (pa_cons pe_int pa_nil)))))
      (pss_cons (ps_for PassesOwn.never rfl (pi_list (pe_slice sl_list (pe_call G3 (hr.mono (by omega)) (by rfl) T.g_law_mixed T.f_law_mixed.kp T.n_law_mixed .nil pass0 (pa_cons (pv 0) (pa_cons (pe_lst (pa_cons pe_str (pa_cons pe_str (pa_cons pe_str (pa_cons pe_str pa_nil))))) pa_nil))) po_none (po_some (pe_op op_add pe_int (pe_call G1 (hr.mono (by omega)) (by rfl) T.g_law_roll T.f_law_roll.kp T.n_law_roll .nil pass0 (pa_cons (pv 0) (pa_cons (pv 1) pa_nil))))))) (pg_name (i := 4) nd rfl (.inl rfl)) (pss_one (ps_expr (pe_bm PySem.F.plainAttrs_list PySem.F.slot_list_append PySem.F.type_list_append mt_append (pv 5) (pa_cons (pe_tup (pa_cons (pv 4) (pa_cons (pe_op op_add pe_int (pe_callB (call_max2 rfl) (by rfl) T.b_max (by decide +kernel) (pa_cons pe_int (pa_cons (pe_op op_sub (pe_call G1 (hr.mono (by omega)) (by rfl) T.g_law_roll T.f_law_roll.kp T.n_law_roll .nil pass0 (pa_cons (pv 0) (pa_cons pe_int pa_nil))) pe_int) pa_nil)))) pa_nil))) pa_nil)))))
      (pss_one (ps_ret (pe_callB (cr_sortedD hr.units) (by rfl) T.b_sorted (by decide +kernel) (pa_cons (pv 5) pa_nil)))))))), ?_⟩
    -- pools
    refine ⟨(by show 4 ≤ sizeLine; decide), fun p1 n1 => ⟨(by show 4 ≤ sizeLine; decide), fun p2 n2 => ⟨(by show 4 ≤ sizeLine; decide), fun p3 n3 => ⟨(by show 3 ≤ sizeLine; decide), fun pl n4 => ?_⟩⟩⟩⟩
    have s1 := same_new (o := .lst [.str "a", .str "b", .str "c", .str "d"]) n1
    have s2 := same_new (o := .lst [.str "a", .str "ab", .str "b", .str "ba"]) n2
    have s3 := same_new (o := .lst [.str "x", .str "xin", .str "xout", .str "y"]) n3
    have s4 := same_new (o := .lst [.ref p1, .ref p2, .ref p3]) n4
    have dH := hd
    obtain ⟨i0, i1, i2, ha, _⟩ := dH
    have hpl : ∀ v, v ∈ [V.ref p1, .ref p2, .ref p3] → ∃ b l, v = .ref b ∧ l ∈ pools ∧ b ≠ a ∧ (upd (upd (upd (upd H p1 (.lst [.str "a", .str "b", .str "c", .str "d"])) p2 (.lst [.str "a", .str "ab", .str "b", .str "ba"])) p3 (.lst [.str "x", .str "xin", .str "xout", .str "y"])) pl (.lst [.ref p1, .ref p2, .ref p3])) b = some (.lst (l.map V.str)) := by
      intro v hv
      have na : ∀ {G : Hp} {b : Addr}, Same H G → G b = none → b ≠ a := fun sm e z => by
        rw [z, sm _ _ ha] at e
        cases e
      rcases List.mem_cons.mp hv with rfl | hv
      · exact ⟨p1, ["a", "b", "c", "d"], rfl, .head _, na (Same.refl H) n1, s4 _ _ (s3 _ _ (s2 _ _ upd_same))⟩
      · rcases List.mem_cons.mp hv with rfl | hv
        · exact ⟨p2, ["a", "ab", "b", "ba"], rfl, .tail _ (.head _), na s1 n2, s4 _ _ (s3 _ _ upd_same)⟩
        · cases List.mem_singleton.mp hv
          exact ⟨p3, ["x", "xin", "xout", "y"], rfl, .tail _ (.tail _ (.head _)), na (s1.trans s2) n3, s4 _ _ upd_same⟩
    have npa : pl ≠ a := fun z => by
      rw [z, s3 _ _ (s2 _ _ (s1 _ _ ha))] at n4
      cases n4
    refine ⟨fun σ' H' => But a H H' ∧ Dice H' a (n + 5) ∧ ∃ (c : Addr) (ys : List Str), σ' = [some (.ref a), some (.int 3), some (.ref pl), some (.ref c), none, none] ∧ c ≠ a ∧ H' c = some (.lst (ys.map V.str)) ∧ ys.length = 4 ∧ ∀ x, x ∈ ys → isNm x = true ∧ x ∉ funcs, ?_, ?_⟩
    · refine ⟨.ref a, rfl, .ref a, rfl, .ref pl, rfl, a, pl, n, _, rfl, ((((hd.up s1).up s2).up s3).up s4), by omega, .inl (.inl upd_same), npa, Nat.zero_lt_succ _, (by show 3 < 1000000; decide), fun i v H' bt dd hi => ?_⟩
      obtain ⟨b, l, rfl, hl, hb, eb⟩ := hpl v (List.mem_of_getElem? hi)
      obtain ⟨l4, lp⟩ := pools_ok l hl
      have eb' := bt _ _ eb hb
      refine ⟨a, b, n + 1, l.map V.str, rfl, dd, by rw [List.length_map]; omega, .inl (.inl eb'), hb, by rw [List.length_map]; omega, fun ys c H2 bt2 dd2 pm nc nca ec => ?_⟩
      obtain ⟨ws, pw, rfl⟩ := perm_back pm.symm l rfl
      rw [List.length_map, l4] at dd2
      exact ⟨(But.of (s1.trans (s2.trans (s3.trans s4)))).trans (bt.trans bt2), dd2, c, ws, rfl, nca, ec, by rw [pw.length_eq, l4], fun x hx => lp x (pw.mem_iff.mp hx)⟩
    rintro σ1 H1 ⟨bt1, dd1, c, ys, rfl, nca, ec, y4, hy⟩
    -- the cells
    refine ⟨_, rfl, _, rfl, a, n + 5, 3, rfl, dd1, by omega, by decide, by decide, fun r H2 bt2 dd2 r0 r1 => ⟨2, r, rfl, rfl, _, rfl, c, _, rfl, .inl (.inl (bt2 _ _ ec nca)), fun e ne => ⟨e, rfl, ⟨_, .inl (.inl upd_same)⟩, fun D nD => ?_⟩⟩⟩
    rw [cut_upto (by omega), ← List.map_take] at nD ⊢
    have nea := dd2.ne ne
    have sne := same_new (o := .lst ((ys.take (2 + r).toNat).map V.str)) ne
    have nDa := (dd2.up sne).ne nD
    have nDH := But.free (bt1.trans (bt2.trans (But.of sne))) nDa nD
    have lc : (ys.take (2 + r).toNat).length ≤ 4 ∧ 2 ≤ (ys.take (2 + r).toNat).length := by
      rw [List.length_take]
      omega
    have hc : ∀ x, x ∈ ys.take (2 + r).toNat → isNm x = true ∧ x ∉ funcs := fun x hx => hy x (List.mem_of_mem_take hx)
    generalize ys.take (2 + r).toNat = cs at lc hc nD sne
    refine lc_list (K := K) (a := e) (xs := cs.map V.str) (fun i H3 => But a H H3 ∧ Dice H3 a (n + 6) ∧ H3 e = some (.lst (cs.map V.str)) ∧ ∃ zs : List Rw, RowsIn H3 D zs ∧ zs.map Prod.snd = (cs.take i).map fun x => (x, 0))
      ⟨bt1.trans (bt2.trans (But.of (sne.trans (same_new nD)))), dd2.up (sne.trans (same_new nD)), same_new nD _ _ upd_same, [], ⟨upd_same, fun z hz => (nomatch hz)⟩, by simp⟩ (fun i H3 _ h => .inl (.inl h.2.2.1)) ?_ ?_
    · rintro i y H3 hi ⟨bt3, dd3, ee, zs, ri, em⟩
      rw [List.getElem?_map] at hi
      obtain ⟨x, hx, rfl⟩ := Option.map_eq_some_iff.mp hi
      have lt : i < cs.length := (List.getElem?_eq_some_iff.mp hx).1
      have lz : zs.length = i := by
        have := congrArg List.length em
        simp only [List.length_map, List.length_take] at this
        omega
      refine ⟨rfl, (iteT (B := False) ?_ : if true = true then _ else False)⟩
      refine ⟨_, rfl, (by show 2 ≤ sizeLine; decide), fun q nq => ?_⟩
      have nqD : D ≠ q := ne_of_none ri.1 nq
      have smq := same_new (o := rowO (x, 0)) nq
      have neD : e ≠ D := fun z => by
        rw [z, upd_same] at nD
        cases nD
      refine ⟨zs.map fun z => V.ref z.1, by rw [upd_ne nqD]; exact ri.1, by rw [List.length_map]; exact small1000 (by omega), (bt3.trans (But.of smq)).put nDH, (dd3.up smq).put nDa, ?_, zs ++ [(q, (x, 0))], ri.snoc (r := (x, 0)) nq, ?_⟩
      · rw [upd_ne neD]
        exact smq _ _ ee
      · rw [List.map_append, em, List.take_add_one, hx, List.map_append]
        rfl
    rintro H3 ⟨bt3, dd3, ee, zs, ri, em⟩
    rw [List.length_map, List.take_length] at em
    clear ee sne
    -- the others
    refine ⟨_, rfl, (by show 4 ≤ sizeLine; decide), fun g ng => ⟨a, g, n + 6, funcs.map V.str, rfl, dd3.up (same_new ng), by show n + 6 + 4 < cap; omega, .inl (.inl upd_same), dd3.ne ng, by decide, fun fs p H4 bt4 dd4 pm np npa' ep => ?_⟩⟩
    obtain ⟨ws, pw, rfl⟩ := perm_back pm.symm funcs rfl
    have dd4 : Dice H4 a (n + 10) := dd4
    have ri4 := (ri.up (same_new (o := .lst (funcs.map V.str)) ng)).but bt4 (dd3.up (same_new ng)) nDa
    have bt4 := bt3.trans ((But.of (same_new (o := .lst (funcs.map V.str)) ng)).trans bt4)
    refine ⟨_, rfl, _, rfl, a, n + 10, 3, rfl, dd4, by omega, by decide, by decide, fun r5 H5 bt5 dd5 r50 r51 => ⟨1, r5, rfl, rfl, _, rfl, p, _, rfl, .inl (.inl (bt5 _ _ ep npa')), fun u nu => ⟨u, rfl, ⟨_, .inl (.inl upd_same)⟩, ?_⟩⟩⟩
    rw [cut_upto (by omega), ← List.map_take]
    have nus : u ≠ D := (ne_of_none (ri4.but bt5 dd4 nDa).1 nu).symm
    have smu := same_new (o := .lst ((ws.take (1 + r5).toNat).map V.str)) nu
    have nua := dd5.ne nu
    have lf : (ws.take (1 + r5).toNat).length ≤ 3 := by
      rw [List.length_take]
      omega
    have ndw : (ws.take (1 + r5).toNat).Nodup := List.Nodup.sublist (List.take_sublist _ _) (pw.nodup_iff.mpr funcs_ok.1)
    have hw : ∀ x, x ∈ ws.take (1 + r5).toNat → x ∈ funcs := fun x hx => pw.mem_iff.mp (List.mem_of_mem_take hx)
    have bt6 := bt4.trans (bt5.trans (But.of smu))
    have dd6 := dd5.up smu
    have ri6 := (ri4.but bt5 dd4 nDa).up smu
    generalize ws.take (1 + r5).toNat = us at lf ndw hw bt6 dd6 ri6 ⊢
    clear smu
    have lcz : zs.length = cs.length := by
      have := congrArg List.length em
      simpa only [List.length_map] using this
    refine for_list (K := K) (a := u) (xs := us.map V.str) (fun i σ H7 => But a H H7 ∧ Dice H7 a (n + 11 + i) ∧ H7 u = some (.lst (us.map V.str)) ∧ ∃ (y : Option V) (fr : List Rw), σ = [some (.ref a), some (.int 3), some (.ref pl), some (.ref c), y, some (.ref D)] ∧ RowsIn H7 D (zs ++ fr) ∧ fr.map (fun z => z.2.1) = us.take i ∧ ∀ z, z ∈ fr → z.2.2 ≤ 3)
      ⟨bt6, dd6, upd_same, none, [], rfl, by rw [List.append_nil]; exact ri6, by simp, fun z hz => (nomatch hz)⟩ (fun i σ H3 _ h => .inl (.inl h.2.2.1)) ?_ ?_
    · rintro i y σ H7 hi ⟨bt7, dd7, eu, y0, fr, rfl, ri7, em7, h7⟩
      rw [List.getElem?_map] at hi
      obtain ⟨x, hx, rfl⟩ := Option.map_eq_some_iff.mp hi
      have lt : i < us.length := (List.getElem?_eq_some_iff.mp hx).1
      refine ⟨_, rfl, .inl ⟨rfl, _, .inl (.inl ri7.1)⟩, _, rfl, _, rfl, a, n + 11 + i, 5, rfl, dd7, by omega, by decide, by decide, fun r8 H8 bt8 dd8 r80 r81 => ⟨r8, 2, rfl, rfl, 0, r8 - 2, rfl, 1, _, rfl, rfl, (by show 2 ≤ sizeLine; decide), fun q nq => ?_⟩⟩
      have ri8 := ri7.but bt8 dd7 nDa
      obtain ⟨k, hk, ek⟩ : ∃ k : Nat, k ≤ 3 ∧ (1 + if r8 - 2 > 0 then r8 - 2 else 0 : Int) = k := by
        refine ⟨(1 + if r8 - 2 > 0 then r8 - 2 else 0 : Int).toNat, ?_, ?_⟩ <;> split <;> omega
      dsimp only
      rw [ek]
      have smq := same_new (o := rowO (x, k)) nq
      have eq8 := smq _ _ ri8.1
      have lfr : fr.length ≤ 3 := by
        have := congrArg List.length em7
        simp only [List.length_map, List.length_take] at this
        omega
      refine ⟨D, _, .ref q, rfl, rfl, eq8, by rw [List.length_map, List.length_append]; exact small1000 (by omega), (bt7.trans (bt8.trans (But.of smq))).put nDH, ((dd8.up smq).put nDa).le (by omega), ?_, some (.str x), fr ++ [(q, (x, k))], rfl, ?_, ?_, fun z hz => ?_⟩
      · rw [upd_ne nus]
        exact smq _ _ (bt8 _ _ eu nua)
      · rw [← List.append_assoc]
        exact ri8.snoc (r := (x, k)) nq
      · rw [List.map_append, em7, List.take_add_one, hx]
        rfl
      · rcases List.mem_append.mp hz with hz | hz
        · exact h7 z hz
        · rw [List.mem_singleton.mp hz]
          exact hk
    · rintro σ H7 ⟨bt7, dd7, eu, y0, fr, rfl, ri7, em7, h7⟩
      rw [List.length_map, List.take_length] at em7
      have lfr : fr.length ≤ 3 := by
        have := congrArg List.length em7
        simp only [List.length_map] at this
        omega
      -- sorted
      have eI : ∀ l : List Rw, (l.map rowI).map Prod.fst = l.map fun z => V.ref z.1 := fun l => by rw [List.map_map]; rfl
      have eS : ∀ l : List Rw, (l.map rowI).map Prod.snd = l.map fun z => PyData.tuple [.str z.2.1, .int (z.2.2 : Int)] := fun l => by rw [List.map_map]; rfl
      refine ⟨_, rfl, D, (zs ++ fr).map rowI, rfl, by rw [eI]; exact .inl (.inl ri7.1), fun z hz => ?_, ?_, ?_, by rw [List.length_map, List.length_append]; exact Nat.le_of_lt (small1000 (by omega)), fun z hz => ?_, fun p np => ?_⟩
      · obtain ⟨z, hz2, rfl⟩ := List.mem_map.mp hz
        exact .tup (.inl (.inl (ri7.2 z hz2))) (.cons (.str _) (.cons (.int _) .nil))
      · rw [eS]
        exact PySem.W.AllAlike.of fun b b' => rfl
      · rw [eS]
        exact PySem.W.Sortable.tuples fun b => ⟨_, _, rfl⟩
      · obtain ⟨z, hz2, rfl⟩ := List.mem_map.mp hz
        show PyData.depth (.tuple [.str z.2.1, .int (z.2.2 : Int)]) ≤ 60
        simp [PyData.depth, PyData.depthAll]
      · obtain ⟨ws2, pw2, ew2⟩ := perm_back (List.mergeSort_perm ((zs ++ fr).map rowI) (PySem.W.dataLe false Prod.snd)).symm (zs ++ fr) rfl
        rw [ew2, eI]
        have npa2 := dd7.ne np
        have smp := same_new (o := .lst (ws2.map fun z => V.ref z.1)) np
        refine q p ws2 _ (bt7.trans (But.of smp)) ((dd7.up smp).le ?_) (But.free bt7 npa2 np) npa2 ⟨upd_same, fun z hz => smp _ _ (ri7.2 z (pw2.mem_iff.mp hz))⟩ ?_
        · rw [List.length_map]
          omega
        · refine Good.perm ?_ (pw2.map Prod.snd).symm
          rw [List.map_append, em]
          refine ⟨fun r hr => ?_, ?_, ?_, ?_⟩
          · rcases List.mem_append.mp hr with h | h
            · obtain ⟨x, hx, rfl⟩ := List.mem_map.mp h
              exact ⟨(hc x hx).1, Nat.zero_le _⟩
            · obtain ⟨z, hz, rfl⟩ := List.mem_map.mp h
              refine ⟨funcs_ok.2 _ (hw _ ?_), h7 z hz⟩
              rw [← em7]
              exact List.mem_map.mpr ⟨z, hz, rfl⟩
          · have inF : ∀ r, r ∈ fr.map Prod.snd → r.1 ∈ funcs := fun r hr => by
              obtain ⟨z, hz, rfl⟩ := List.mem_map.mp hr
              refine hw _ ?_
              rw [← em7]
              exact List.mem_map.mpr ⟨z, hz, rfl⟩
            have inC : ∀ r, r ∈ (cs.map fun x => ((x, 0) : NK)) → r.1 ∉ funcs ∧ r.2 = 0 := fun r hr => by
              obtain ⟨x, hx, rfl⟩ := List.mem_map.mp hr
              exact ⟨(hc x hx).2, rfl⟩
            intro r hr t ht e
            rcases List.mem_append.mp hr with h1 | h1
            · rcases List.mem_append.mp ht with h2 | h2
              · rw [(inC r h1).2, (inC t h2).2]
              · have z := (inC r h1).1
                rw [e] at z
                exact absurd (inF t h2) z
            · rcases List.mem_append.mp ht with h2 | h2
              · have z := (inC t h2).1
                rw [← e] at z
                exact absurd (inF r h1) z
              · obtain ⟨x, hx, rfl⟩ := List.mem_map.mp h1
                obtain ⟨y, hy, rfl⟩ := List.mem_map.mp h2
                rw [nodup_inj (f := fun z : Rw => z.2.1) (by rw [em7]; exact ndw) hx hy e]
          · cases cs with
            | nil =>
              simp at lc
            | cons x cs => exact ⟨(x, 0), List.mem_append_left _ (List.mem_map.mpr ⟨x, List.mem_cons_self, rfl⟩), rfl⟩
          · rw [List.length_append, List.length_map, List.length_map]
            omega
end
end K04
/-! A term of the turn. -/
namespace K04
open PySem PySem.Spec PyProof.Rows L2 Kx
/-- tuples stand -/
def Tups (H H' : Hp) : Prop := ∀ b xs, H b = some (.tup xs) → H' b = some (.tup xs)
theorem Tups.of {H H' : Hp} (x : Same H H') : Tups H H' := fun b xs h => x b _ h
theorem Tups.trans {H H1 H2 : Hp} (x : Tups H H1) (y : Tups H1 H2) : Tups H H2 := fun b xs h => y b xs (x b xs h)
theorem Tups.but {a : Addr} {n : Nat} {H H' : Hp} (x : But a H H') (d : Dice H a n) : Tups H H' := fun b xs h => by
  obtain ⟨_, _, _, z, _⟩ := d
  exact x b _ h (ne_of h z (fun e => nomatch e))
theorem Tups.lst {D : Addr} {H : Hp} {xs ys : List V} (h : H D = some (.lst xs)) : Tups H (upd H D (.lst ys)) := fun b zs e => by
  rw [upd_ne (ne_of e h (fun e => nomatch e))]
  exact e
mutual
/-- no list, no dict -/
def pureD : PyData → Bool
  | .list _ => false
  | .dict _ => false
  | .tuple ds => pureAll ds
  | _ => true
def pureAll : List PyData → Bool
  | [] => true
  | d :: ds => pureD d && pureAll ds
end
mutual
theorem Dx.ts {K : PySem.W.Frag} {H H' : Hp} (t : Tups H H') : ∀ (d : PyData) (x : V), pureD d = true → Dx K H x d → Dx K H' x d
  | .none, _, _, h => by cases h; exact .non
  | .bool b, _, _, h => by cases h; exact .bl b
  | .int i, _, _, h => by cases h; exact .int i
  | .str x, _, _, h => by cases h; exact .str x
  | .list ds, _, e, h => by cases e
  | .tuple ds, _, e, h => by cases h with | tup a b => exact .tup (t _ _ a) (DxAll.ts t ds _ (by simpa [pureD] using e) b)
  | .dict ds, _, e, h => by cases e
theorem DxAll.ts {K : PySem.W.Frag} {H H' : Hp} (t : Tups H H') : ∀ (ds : List PyData) (xs : List V), pureAll ds = true → DxAll K H xs ds → DxAll K H' xs ds
  | [], _, _, h => by cases h; exact .nil
  | d :: ds, _, e, h => by
    have e : pureD d = true ∧ pureAll ds = true := by simpa [pureAll] using e
    cases h with | cons a b => exact .cons (Dx.ts t d _ e.1 a) (DxAll.ts t ds _ e.2 b)
end
theorem pure_name {d : PyData} (h : nameD d = true) : pureD d = true := by
  cases d with
  | str x => rfl
  | _ => cases h
mutual
theorem pure_formed : ∀ (d : PyData), formedD d = true → pureD d = true
  | .none, h => rfl
  | .bool _, h => rfl
  | .int _, h => rfl
  | .str _, h => rfl
  | .list ds, h => by cases h
  | .dict ds, h => by cases h
  | .tuple [], h => rfl
  | .tuple (d :: ds), h => by
    simp only [formedD, Bool.and_eq_true] at h
    simp only [pureD, pureAll, Bool.and_eq_true]
    exact ⟨pure_name h.1.2, pure_formedAll ds h.2⟩
theorem pure_formedAll : ∀ (ds : List PyData), formedAll ds = true → pureAll ds = true
  | [], h => rfl
  | d :: ds, h => by
    simp only [formedAll, Bool.and_eq_true] at h
    simp only [pureAll, Bool.and_eq_true]
    exact ⟨pure_formed d h.1, pure_formedAll ds h.2⟩
end
theorem RowsIn.add {H : Hp} {f : Addr} {zs : List Rw} {z : Rw} (h : RowsIn H f zs) (n : H z.1 = some (rowO z.2)) : RowsIn (upd H f (.lst ((zs.map fun z => V.ref z.1) ++ [V.ref z.1]))) f (zs ++ [z]) := by
  refine ⟨by rw [upd_same, List.map_append]; rfl, fun y hy => ?_⟩
  have e : H y.1 = some (rowO y.2) := by
    rcases List.mem_append.mp hy with hy | hy
    · exact h.2 y hy
    · rw [List.mem_singleton.mp hy]
      exact n
  rw [upd_ne (ne_of e h.1 (fun e => nomatch e))]
  exact e
theorem RowsIn.off {H : Hp} {f D : Addr} {zs : List Rw} {xs ys : List V} (h : RowsIn H f zs) (e : H D = some (.lst xs)) (n : D ≠ f) : RowsIn (upd H D (.lst ys)) f zs := by
  refine ⟨by rw [upd_ne n.symm]; exact h.1, fun z hz => ?_⟩
  rw [upd_ne (ne_of (h.2 z hz) e (fun e => nomatch e))]
  exact h.2 z hz
def cost : Nat → Nat
  | 0 => 0
  | n + 1 => 2 + 3 * cost n
/-- a term with names of rs, n levels at most -/
structure Tm (rs : List NK) (n : Nat) (d : PyData) : Prop where
  fm : formedD d = true
  rw : ∀ r, r ∈ rowsD d → r ∈ rs
  dp : d.depth ≤ n
theorem formedAll_snoc {ds : List PyData} {d : PyData} : formedAll (ds ++ [d]) = (formedAll ds && formedD d) := by
  rw [formedAll_append]
  simp [formedAll]
theorem depthAll_snoc {n : Nat} : ∀ {ds : List PyData} {d : PyData}, PyData.depthAll ds ≤ n → d.depth ≤ n → PyData.depthAll (ds ++ [d]) ≤ n
  | [], d, _, h => by simpa [PyData.depthAll] using h
  | e :: ds, d, h1, h2 => by
    rw [List.cons_append, PyData.depthAll]
    rw [PyData.depthAll] at h1
    have := depthAll_snoc (ds := ds) (d := d) (n := n) (by omega) h2
    omega
section
variable {P : Program} {w : World} {K : PySem.W.Frag} {mg : Str → Option Value} {base : Heap}
def spLt (K : PySem.W.Frag) (n : Nat) : Sp := fun vs H Q _ => ∃ (a b : Addr) (m : Nat) (zs : List Rw), vs = [.ref a, .ref b, .int (n : Int)] ∧ 0 < n ∧ Dice H a m ∧ m + cost n < cap ∧ RowsIn H b zs ∧ b ≠ a ∧ Good (zs.map Prod.snd) ∧
  ∀ (x : V) (d : PyData) H', But a H H' → Dice H' a (m + cost n) → Dx K H' x d → Tm (zs.map Prod.snd) n d → Q x H'
theorem ok_lt (T : Tx K mg) : ∀ n, FnOk P w K mg base CX0 (n + 3) T.a_law_term T.d_law_term ["dice", "names", "deep"] (spLt K n)
  | 0 => by
    refine T.f_law_term.ok sc__law_term (fun vs H Q E h => ?_) (fun cdv A outer s H vs Q E hr h => ?_)
    · obtain ⟨a, b, m, zs, rfl, _⟩ := h
      rfl
    · obtain ⟨a, b, m, zs, rfl, h0, _⟩ := h
      exact absurd h0 (Nat.lt_irrefl _)
  | n + 1 => by
    have nd := sc__law_term.nd
    have G0 := ok_lt T n
    have G1 := ok_roll (P := P) (w := w) (base := base) T
    have G2 := ok_pick (P := P) (w := w) (base := base) T
    refine T.f_law_term.ok sc__law_term (fun vs H Q E h => ?_) (fun cdv A outer s H vs Q E hr h => ?_)
    · obtain ⟨a, b, m, zs, rfl, _⟩ := h
      rfl
    · obtain ⟨a, b, m, zs, rfl, _, hd, hc, ri, nba, gd, q⟩ := h
      refine ⟨_, (pss_cons (ps_setLc (i := 3) (own := [("row", 6)]) (g := (gName 6)) (by rfl) nd rfl rfl (sw_true rfl rfl rfl (by decide +kernel)) (pi_list (pv 1)) (blkOk_by (own := [("row", 6)]) (N := N__law_term) (sc := defScope s__law_term) (by decide +kernel)) (fun _ _ _ _ _ => pg_name (i := 6) nd rfl (.inl rfl)) (fun _ _ _ _ _ => (pts_one (pt_cmpR op_eq (pe_ix (r := rIxT K) ix_tup (pv 6) pe_int (fun _ _ => rfl)) pe_int (nomark _)))) (fun _ _ _ _ _ => (pv 6)))
      (C8.pss_cut (ps_if (PW.pt (pw_and (pt_cmpR op_gt (pv 2) pe_int (nomark _)) (pw_and1 (pt_cmpR op_gt (pe_call G1 (hr.mono (by omega)) (by rfl) T.g_law_roll T.f_law_roll.kp T.n_law_roll .nil pass0 (pa_cons (pv 0) (pa_cons pe_int pa_nil))) pe_int (nomark _))))) (pss_one (ps_set (i := 3) nd rfl (.inl rfl) (pv 1))) pss_nil)
      (pss_cons (ps_asg (pe_call G2 (hr.mono (by omega)) (by rfl) T.g_law_pick T.f_law_pick.kp T.n_law_pick .nil pass0 (pa_cons (pv 0) (pa_cons (pv 3) pa_nil))) (pg_tup rfl (pgs_cons (pg_name (i := 4) nd rfl (.inl rfl)) (pgs_cons (pg_name (i := 5) nd rfl (.inl rfl)) pgs_nil))))
      (pss_one (ps_ret (pe_op op_catA (pe_tup (pa_cons (pv 4) pa_nil)) (pe_callTy call_tuple_of (by rfl) T.b_tuple (by decide +kernel) (pa_cons (pe_lc (own := [("turn", 7)]) (g := (gName 7)) (tt := tYes) (by rfl) nd (pi_range1 (by rfl) T.b_range (pa_cons (pv 5) pa_nil)) (blkOk_by (own := [("turn", 7)]) (N := N__law_term) (sc := defScope s__law_term) (by decide +kernel)) (fun _ _ _ _ _ => pg_name (i := 7) nd rfl (.inl rfl)) (fun _ _ _ _ _ => pts_nil) (fun s1 H1 C1 cl1 fp1 => (pe_call G0 (hr.mono (by omega)) (by rfl) T.g_law_term T.f_law_term.kp T.n_law_term .nil pass0 (pa_cons (pv 0) (pa_cons (pv 1) (pa_cons (pe_op op_sub (pv 2) pe_int) pa_nil)))))) pa_nil)))))))), ?_⟩
      have lzs : zs.length ≤ 20 := by
        have := gd.few
        rwa [List.length_map] at this
      refine ⟨_, rfl, b, rfl, ⟨_, .inl (.inl ri.1)⟩, fun D nD => ?_⟩
      have smD := same_new (o := .lst []) nD
      have nDa := hd.ne nD
      refine lc_list (K := K) (a := b) (xs := zs.map fun z => V.ref z.1) (fun i H3 => Same H H3 ∧ ∃ ws : List Rw, RowsIn H3 D ws ∧ (∀ z, z ∈ ws → z ∈ zs ∧ z.2.2 = 0) ∧ (∀ (j : Nat) z, j < i → zs[j]? = some z → z.2.2 = 0 → z ∈ ws) ∧ ws.length ≤ i)
        ⟨smD, [], ⟨upd_same, fun z hz => (nomatch hz)⟩, fun z hz => (nomatch hz), fun j z h => absurd h (Nat.not_lt_zero _), Nat.le_refl _⟩ (fun i H3 _ h => .inl (.inl (h.1 _ _ ri.1))) ?_ ?_
      · rintro i y H3 hi ⟨sm, ws, rw3, h1, h2, l3⟩
        rw [List.getElem?_map] at hi
        obtain ⟨z, hz, rfl⟩ := Option.map_eq_some_iff.mp hi
        have lt : i < zs.length := (List.getElem?_eq_some_iff.mp hz).1
        have ez := sm _ _ (ri.2 z (List.mem_of_getElem? hz))
        refine ⟨rfl, _, rfl, z.1, _, 1, .int (z.2.2 : Int), rfl, rfl, SqT.of ez, atI_nat (j := 1) rfl, rfl, _, rfl, ite2 (fun e0 => ?_) (fun e0 => ?_)⟩
        · have z0 : z.2.2 = 0 := by
            have := of_decide_eq_true (p := V.int (z.2.2 : Int) = V.int 0) e0
            injection this with this
            exact Int.ofNat.inj this
          refine ⟨_, rfl, _, rw3.1, by rw [List.length_map]; exact small1000 (by omega), fun c o hc => ?_, ws ++ [z], rw3.add ez, fun y hy => ?_, fun j y hj hy h0 => ?_, by rw [List.length_append]; exact Nat.succ_le_succ l3⟩
          · rw [upd_ne (ne_of_none hc nD)]
            exact sm c o hc
          · rcases List.mem_append.mp hy with hy | hy
            · exact h1 y hy
            · rw [List.mem_singleton.mp hy]
              exact ⟨List.mem_of_getElem? hz, z0⟩
          · by_cases e : j = i
            · rw [e, hz] at hy
              cases hy
              exact List.mem_append_right _ (List.mem_singleton.mpr rfl)
            · exact List.mem_append_left _ (h2 j y (by omega) hy h0)
        · refine ⟨sm, ws, rw3, h1, fun j y hj hy h0 => ?_, by omega⟩
          by_cases e : j = i
          · rw [e, hz] at hy
            cases hy
            rw [h0] at e0
            exact absurd (decide_eq_true rfl) e0
          · exact h2 j y (by omega) hy h0
      rintro H3 ⟨sm, ws, rw3, h1, h2, l3⟩
      rw [List.length_map] at h2 l3
      have wne : ws ≠ [] := fun e => by
        obtain ⟨r, hr, r0⟩ := gd.cell
        obtain ⟨z, hz, rfl⟩ := List.mem_map.mp hr
        obtain ⟨j, hj⟩ := List.getElem?_of_mem hz
        have := h2 j z (List.getElem?_eq_some_iff.mp hj).1 hj r0
        rw [e] at this
        cases this
      refine ⟨fun σ' H' => But a H H' ∧ Dice H' a (m + 1) ∧ RowsIn H' b zs ∧ ∃ (s : Addr) (vs : List Rw), σ' = [some (.ref a), some (.ref b), some (.int ((n + 1 : Nat) : Int)), some (.ref s), none, none, none, none] ∧ RowsIn H' s vs ∧ s ≠ a ∧ vs ≠ [] ∧ vs.length ≤ 20 ∧ (∀ z, z ∈ vs → z ∈ zs) ∧ (n = 0 → ∀ z, z ∈ vs → z.2.2 = 0), ?_, ?_⟩
      · have stay : ∀ H', But a H3 H' → Dice H' a (m + 1) → But a H H' ∧ Dice H' a (m + 1) ∧ RowsIn H' b zs ∧ ∃ (s : Addr) (vs : List Rw), [some (V.ref a), some (.ref b), some (.int ((n + 1 : Nat) : Int)), some (.ref D), none, none, none, none] = [some (V.ref a), some (.ref b), some (.int ((n + 1 : Nat) : Int)), some (.ref s), none, none, none, none] ∧ RowsIn H' s vs ∧ s ≠ a ∧ vs ≠ [] ∧ vs.length ≤ 20 ∧ (∀ z, z ∈ vs → z ∈ zs) ∧ (n = 0 → ∀ z, z ∈ vs → z.2.2 = 0) := fun H' bt dd =>
          ⟨(But.of sm).trans bt, dd, (ri.up sm).but bt (hd.up sm) nba, D, ws, rfl, rw3.but bt (hd.up sm) nDa, nDa, wne, by omega, fun z hz => (h1 z hz).1, fun _ z hz => (h1 z hz).2⟩
        refine ⟨_, rfl, _, _, rfl, rfl, _, rfl, ite2 (fun e1 => ?_) (fun e1 => ?_)⟩
        · have n0 : n ≠ 0 := fun z => by
            have := of_decide_eq_true e1
            rw [z] at this
            exact absurd this (by decide)
          refine ⟨_, rfl, a, m, 3, rfl, hd.up sm, ?_, by decide, by decide, fun r H4 bt dd r0 r1 => ⟨_, _, rfl, rfl, _, rfl, ite2 (fun e2 => ?_) (fun e2 => ?_)⟩⟩
          · rw [cost] at hc
            omega
          · have ri4 := (ri.up sm).but bt (hd.up sm) nba
            refine ⟨_, rfl, (But.of sm).trans bt, dd, ri4, b, zs, rfl, ri4, nba, fun z => ?_, lzs, fun z hz => hz, fun z => absurd z n0⟩
            rw [z] at h1
            cases ws with
            | nil => exact wne rfl
            | cons y ws => cases (h1 y List.mem_cons_self).1
          · exact stay H4 bt dd
        · exact stay H3 (But.refl a H3) ((hd.up sm).le (Nat.le_succ m))
      rintro σ1 H5 ⟨bt5, dd5, ri5, s5, vs, rfl, rs5, ns5, vne, lvs, sub, leaf⟩
      have vp : 0 < vs.length := by
        cases vs with
        | nil => exact absurd rfl vne
        | cons _ _ => exact Nat.succ_pos _
      -- the pick
      refine ⟨_, rfl, _, rfl, a, s5, m + 1, _, rfl, dd5, ?_, .inl (.inl rs5.1), ns5, by rw [List.length_map]; exact vp, by rw [List.length_map]; omega, fun i v H6 bt6 dd6 hi => ?_⟩
      · rw [cost] at hc
        omega
      rw [List.getElem?_map] at hi
      obtain ⟨z, hz, rfl⟩ := Option.map_eq_some_iff.mp hi
      have zin := sub z (List.mem_of_getElem? hz)
      have leaf := fun e => leaf e z (List.mem_of_getElem? hz)
      have rs6 := rs5.but bt6 dd5 ns5
      have ri6 := ri5.but bt6 dd5 nba
      have ez := rs6.2 z (List.mem_of_getElem? hz)
      have gz := gd.nm z.2 (List.mem_map.mpr ⟨z, zin, rfl⟩)
      have zmem : z.2 ∈ zs.map Prod.snd := List.mem_map.mpr ⟨z, zin, rfl⟩
      have bt6 := bt5.trans bt6
      obtain ⟨za, nm, k⟩ := z
      dsimp only at gz leaf ez zmem
      refine ⟨za, _, rfl, SqT.of ez, rfl, _, _, rfl, _, _, rfl, rfl, ?_⟩
      -- the head
      refine ⟨_, rfl, (by show 1 ≤ sizeLine; decide), fun t nt => ?_⟩
      have smt := same_new (o := .tup [.str nm]) nt
      have nta := dd6.ne nt
      refine ⟨_, rfl, (k : Int), rfl, by omega, by omega, fun D2 nD2 => ?_⟩
      have smD2 := same_new (o := .lst []) nD2
      have nD2a := (dd6.up smt).ne nD2
      have btD := bt6.trans ((But.of smt).trans (But.of smD2))
      have nD2H := But.free (bt6.trans (But.of smt)) nD2a nD2
      have ek : ((k : Int)).toNat = k := Int.toNat_natCast k
      rw [ek]
      refine lc_range (fun i H7 => But a H H7 ∧ Dice H7 a (m + 2 + i * cost n) ∧ RowsIn H7 b zs ∧ H7 t = some (.tup [.str nm]) ∧ ∃ (ws : List V) (ds : List PyData), H7 D2 = some (.lst ws) ∧ DxAll K H7 ws ds ∧ ds.length = i ∧ formedAll ds = true ∧ (∀ r, r ∈ rowsAll ds → r ∈ zs.map Prod.snd) ∧ PyData.depthAll ds ≤ n)
        ⟨btD, (dd6.up (smt.trans smD2)).le (Nat.le_add_right _ _), ri6.up (smt.trans smD2), smD2 _ _ upd_same, [], [], upd_same, .nil, rfl, rfl, fun r h => (nomatch h), Nat.zero_le _⟩ ?_ ?_
      · rintro i H7 hi ⟨bt7, dd7, ri7, et7, ws7, ds7, eD7, dx7, l7, f7, r7, p7⟩
        have n0 : 0 < n := by
          cases n with
          | zero =>
            have := leaf rfl
            omega
          | succ n => exact Nat.succ_pos _
        refine ⟨rfl, (iteT (B := False) ?_ : if true = true then _ else False)⟩
        have c1 : cost (n + 1) = 2 + 3 * cost n := rfl
        have ic : i * cost n + cost n ≤ 3 * cost n := by
          have := Nat.mul_le_mul_right (cost n) (show i + 1 ≤ 3 by omega)
          rwa [Nat.add_mul, Nat.one_mul] at this
        refine ⟨_, rfl, _, rfl, _, rfl, _, _, rfl, rfl, a, b, m + 2 + i * cost n, zs, ?_, n0, dd7, by omega, ri7, nba, gd, fun x d H8 bt8 dd8 hx tm => ?_⟩
        · show [V.ref a, V.ref b, V.int (((n + 1 : Nat) : Int) - 1)] = _
          rw [show ((n + 1 : Nat) : Int) - 1 = (n : Int) by omega]
        · have ts := Tups.but bt8 dd7
          have eD8 := bt8 _ _ eD7 nD2a
          have tD : Tups H8 (upd H8 D2 (.lst (ws7 ++ [x]))) := Tups.lst eD8
          have lw := dx7.length
          refine ⟨ws7, eD8, small1000 (by omega), (bt7.trans bt8).put nD2H, (dd8.put nD2a).le (by rw [Nat.add_mul, Nat.one_mul]; omega), ?_, tD _ _ (ts _ _ et7), ws7 ++ [x], ds7 ++ [d], upd_same, DxAll.append (DxAll.ts (ts.trans tD) _ _ (pure_formedAll _ f7) dx7) (.cons (Dx.ts tD _ _ (pure_formed _ tm.fm) hx) .nil), by rw [List.length_append, l7]; rfl, by rw [formedAll_snoc, f7, tm.fm]; rfl, fun r hr => ?_, depthAll_snoc p7 tm.dp⟩
          · exact ((ri7.but bt8 dd7 nba).off eD8 (ne_of_none ri.1 nD2H).symm)
          · rw [rowsAll_append] at hr
            rcases List.mem_append.mp hr with h | h
            · exact r7 r h
            · simp only [rowsAll, List.append_nil] at h
              exact tm.rw r h
      · rintro H7 ⟨bt7, dd7, ri7, et7, ws7, ds7, eD7, dx7, l7, f7, r7, p7⟩
        have lw := dx7.length
        have c1 : cost (n + 1) = 2 + 3 * cost n := rfl
        have kc : k * cost n ≤ 3 * cost n := Nat.mul_le_mul_right (cost n) gz.2
        refine ⟨D2, ws7, rfl, .inl ⟨.inl (.inl eD7), fun u nu => ?_⟩⟩
        have smu := same_new (o := .tup ws7) nu
        have et8 := smu _ _ et7
        have dx8 := dx7.up smu
        have fm : formedD (.tuple (.str nm :: ds7)) = true := by
          simp [formedD, nameD, gz.1, f7, l7, gz.2]
        have tm : Tm (zs.map Prod.snd) (n + 1) (.tuple (.str nm :: ds7)) := by
          refine ⟨fm, fun r hr => ?_, ?_⟩
          · rw [rowsD, headD, l7] at hr
            rcases List.mem_cons.mp hr with h | h
            · rw [h]
              exact zmem
            · exact r7 r h
          · simp only [PyData.depth, PyData.depthAll]
            omega
        have bt8 := bt7.trans (But.of smu)
        have dd8 := (dd7.up smu).le (show m + 2 + k * cost n ≤ m + cost (n + 1) by omega)
        refine ⟨t, u, _, _, rfl, rfl, SqT.of et8, SqT.of upd_same, Nat.le_of_lt (small1000 (by rw [List.length_singleton]; omega)), fun z => (nomatch z), fun _ e => ?_, fun _ _ v nv => ?_⟩
        · subst e
          cases dx8
          exact q _ _ _ bt8 dd8 (.tup et8 (.cons (.str _) .nil)) tm
        · have smv := same_new (o := .tup ([V.str nm] ++ ws7)) nv
          exact q _ _ _ (bt8.trans (But.of smv)) (dd8.up smv) (.tup upd_same (.cons (.str _) (dx8.up smv))) tm
end
end K04
/-! Displays of data, all at once. -/
namespace Kx
open PySem PySem.Spec PyProof.Rows L2
/-- the heap without S -/
def OffS (S : List Addr) (H : Hp) : Hp := fun b => if b ∈ S then none else H b
def Olds (S : List Addr) (H : Hp) : Prop := ∀ b, b ∈ S → H b ≠ none
section
variable {S : List Addr} {H H' : Hp}
theorem OffS.of {b : Addr} {o : HO} (h : OffS S H b = some o) : b ∉ S ∧ H b = some o := by
  unfold OffS at h
  by_cases e : b ∈ S
  · rw [if_pos e] at h
    cases h
  · rw [if_neg e] at h
    exact ⟨e, h⟩
theorem OffS.out {b : Addr} {o : HO} (n : b ∉ S) (h : H b = some o) : OffS S H b = some o := by
  unfold OffS
  rw [if_neg n]
  exact h
theorem OffS.same (e : Same H H') : Same (OffS S H) (OffS S H') := fun b o h => by
  obtain ⟨n, h⟩ := OffS.of h
  exact OffS.out n (e b o h)
theorem OffS.all : Same (OffS S H) H := fun b o h => (OffS.of h).2
theorem Olds.up (h : Olds S H) (e : Same H H') : Olds S H' := fun b hb z => by
  have := h b hb
  cases k : H b with
  | none => exact this k
  | some o =>
    rw [e b o k] at z
    cases z
theorem Olds.new {p : Addr} (h : Olds S H) (e : H p = none) : p ∉ S := fun z => h p z e
theorem same_put {p : Addr} {o : HO} (h : H p = none) : Same H (upd H p o) := fun b x e => by
  rw [upd_ne (ne_of_none e h)]
  exact e
/-- te makes d anew -/
def Makes (K : PySem.W.Frag) (S : List Addr) (te : TE) (d : PyData) : Prop := ∀ (σ : L2.St) (H : Hp) (Q : VK), Olds S H → (∀ x H', Same H H' → Dx K (OffS S H') x d → Q x H') → te σ H Q
def MakesAll (K : PySem.W.Frag) (S : List Addr) (ta : TA) (ds : List PyData) : Prop := ∀ (σ : L2.St) (H : Hp) (Q : List V → Hp → Prop), Olds S H → (∀ xs H', Same H H' → DxAll K (OffS S H') xs ds → Q xs H') → ta σ H Q
variable {K : PySem.W.Frag} {te : TE} {ta : TA} {d : PyData} {ds : List PyData}
theorem mk_str (x : Str) : Makes K S (tC (.str x)) (.str x) := fun σ H Q _ q => q _ H (Same.refl H) (.str x)
theorem mk_int (i : Int) : Makes K S (tC (.int i)) (.int i) := fun σ H Q _ q => q _ H (Same.refl H) (.int i)
theorem mk_bl (b : Bool) : Makes K S (tC (.bl b)) (.bool b) := fun σ H Q _ q => q _ H (Same.refl H) (.bl b)
theorem mk_non : Makes K S (tC .non) .none := fun σ H Q _ q => q _ H (Same.refl H) .non
theorem mk_nil : MakesAll K S tNil [] := fun σ H Q _ q => q _ H (Same.refl H) .nil
theorem mk_cons (h1 : Makes K S te d) (h2 : MakesAll K S ta ds) : MakesAll K S (tCons te ta) (d :: ds) := fun σ H Q o q =>
  h1 σ H _ o fun x H1 s1 d1 => h2 σ H1 _ (o.up s1) fun xs H2 s2 d2 => q _ H2 (s1.trans s2) (.cons (d1.up (OffS.same s2)) d2)
theorem mk_tup (h : MakesAll K S ta ds) (few : ds.length ≤ sizeLine := by decide) : Makes K S (tTup ta) (.tuple ds) := fun σ H Q o q =>
  h σ H _ o fun xs H1 s1 d1 => ⟨by rw [d1.length]; exact few, fun p np => q _ _ (s1.trans (same_put np)) (.tup (OffS.out ((o.up s1).new np) upd_same) (d1.up (OffS.same (same_put np))))⟩
theorem mk_lst (h : MakesAll K S ta ds) (few : ds.length ≤ sizeLine := by decide) : Makes K S (tLst ta) (.list ds) := fun σ H Q o q =>
  h σ H _ o fun xs H1 s1 d1 => ⟨by rw [d1.length]; exact few, fun p np => q _ _ (s1.trans (same_put np)) (.lst (OffS.out ((o.up s1).new np) upd_same) (d1.up (OffS.same (same_put np))))⟩
theorem mk_dic0 : Makes K S tDNewK (.dict []) := fun σ H Q o q p np => q _ _ (same_put np) (.dic (OffS.out (o.new np) upd_same) .nil)
theorem mk_dic1 (k : Str) (i : Int) : Makes K S (tDisp [(tC (.str k), tC (.int i))]) (.dict [(.str k, .int i)]) := fun σ H Q o q p np => by
  refine ⟨upd_same, [(.inr k, .int i)], rfl, (by show 1 ≤ 15; decide), q _ _ (fun b u hb => ?_) (.dic (OffS.out (o.new np) upd_same) (KvD.int .nil))⟩
  have n := ne_of_none hb np
  rw [upd_ne n, upd_ne n]
  exact hb
/-- xs + ys of such lists -/
theorem mk_cat {tb : TE} {es : List PyData} (h1 : Makes K S te (.list ds)) (h2 : Makes K S tb (.list es)) (few : ds.length + es.length ≤ sizeLine := by decide) : Makes K S (tOp rCat te tb) (.list (ds ++ es)) := fun σ H Q o q =>
  h1 σ H _ o fun x H1 s1 d1 => h2 σ H1 _ (o.up s1) fun y H2 s2 d2 => by
    have d1 := d1.up (OffS.same s2)
    cases d1 with
    | lst ha hx =>
    cases d2 with
    | lst hb hy =>
    rename_i a xs b ys
    refine ⟨a, b, xs, ys, rfl, rfl, OffS.all _ _ ha, OffS.all _ _ hb, by rw [hx.length, hy.length]; exact few, fun p np => ?_⟩
    exact q _ _ (s1.trans (s2.trans (same_put np))) (.lst (OffS.out (((o.up s1).up s2).new np) upd_same) (DxAll.append (hx.up (OffS.same (same_put np))) (hy.up (OffS.same (same_put np)))))
/-- name = [..] of such data -/
theorem asg_mk {j : Nat} {rest : TS} {D : Ends} {σ : L2.St} (m : Makes K S te d) (o : Olds S H) (q : ∀ x H', Same H H' → Dx K (OffS S H') x d → rest D (σ.set j (some x)) H') : tSeq (tAsg te (gName j)) rest D σ H := m σ H _ o q
/-- name = name + [..] of such data -/
theorem cat_mk {j : Nat} {rest : TS} {D : Ends} {σ : L2.St} {i : Nat} {x : V} {es : List PyData} {tb : TE} (hx : σ[i]? = some (some x)) (d1 : Dx K (OffS S H) x (.list ds)) (m : Makes K S tb (.list es)) (few : ds.length + es.length ≤ sizeLine) (o : Olds S H)
    (q : ∀ x H', Same H H' → Dx K (OffS S H') x (.list (ds ++ es)) → rest D (σ.set j (some x)) H') : tSeq (tAsg (tOp rCat (tVar i) tb) (gName j)) rest D σ H :=
  ⟨x, hx, m σ H _ o fun y H2 s2 d2 => by
    have d1 := d1.up (OffS.same s2)
    cases d1 with
    | @lst a xs _ ha hx =>
    cases d2 with
    | @lst b ys _ hb hy =>
    refine ⟨a, b, xs, ys, rfl, rfl, OffS.all _ _ ha, OffS.all _ _ hb, by rw [hx.length, hy.length]; exact few, fun p np => ?_⟩
    exact q _ _ (s2.trans (same_put np)) (.lst (OffS.out ((o.up s2).new np) upd_same) (DxAll.append (hx.up (OffS.same (same_put np))) (hy.up (OffS.same (same_put np)))))⟩
end
end Kx
/-! t[:1:-1] of a tuple of two to four. -/
namespace Kx
open PySem PySem.Spec PyProof.Rows L2 HT
section
variable {prog : Program} {w : World} {A : Around} {E : Value → Shared → Prop} {s : Shared}
theorem back_adjust {n : Nat} (h : 2 ≤ n) : Builtin.Slice.sliceAdjust none (some 1) (-1) (n : Int) = ((n : Int) - 1, 1) := by
  have neg : (-1 : Int) < 0 := by decide
  unfold Builtin.Slice.sliceAdjust
  simp only [neg, if_true]
  refine Prod.ext ?_ ?_
  · rfl
  · have no : ¬ ((1 : Int) < 0) := by decide
    simp only [no, if_false]
    omega
theorem back_places {n : Nat} (h : 2 ≤ n) : Builtin.Slice.slicePlaces ((n : Int) - 1) 1 (-1) = n - 2 := by
  unfold Builtin.Slice.slicePlaces
  have no : ¬ ((-1 : Int) > 0) := by decide
  simp only [no, if_false]
  rw [show -(-1 : Int) = 1 from rfl, Int.ediv_one]
  split <;> omega
theorem back_pick : ∀ {xs : List Value}, 2 ≤ xs.length → xs.length ≤ 4 → ((List.range (xs.length - 2)).filterMap fun (m : Nat) => xs.toArray[((xs.length : Int) - 1 + (m : Int) * -1).toNat]?) = (xs.drop 2).reverse
  | [a, b], _, _ => rfl
  | [a, b, c], _, _ => rfl
  | [a, b, c, d], _, _ => rfl
  | [], h, _ => by simp at h
  | [_], h, _ => by simp at h
  | _ :: _ :: _ :: _ :: _ :: _, _, h => by simp at h
theorem back_applied {sl : Addr} {vl vu vs : Value} {n : Nat} {Q : Int × Int × Nat → Shared → Prop} (hn : 2 ≤ n) (hs : s.heap.IsSliceOf sl vl vu vs) (pl : IsPart vl none) (pu : IsPart vu (some 1)) (ps : IsPart vs (some (-1)))
    (h : Q ((n : Int) - 1, -1, n - 2) s) : wpAny (model prog w) A (Builtin.Slice.sliceApplied (.ref sl) (pure (n : Int))) Q E s := by
  obtain ⟨ob, h1, h2, h3⟩ := id hs
  unfold Builtin.Slice.sliceApplied Builtin.Slice.sliceFields
  refine wpAny_bind (wpAny_bind (wpAny_field h1 h3 (x := vl) rfl (wpAny_bind (wpAny_field h1 h3 (x := vu) rfl (wpAny_bind (wpAny_field h1 h3 (x := vs) rfl (wpAny_pure ?_)))))))
  refine wpAny_bind (slicePart_ ps ?_)
  show wpAny _ _ (if ((-1 : Int) == 0) = true then _ else _) _ _ s
  rw [if_neg (by decide)]
  refine wpAny_bind (slicePart_ pl (wpAny_bind (slicePart_ pu (wpAny_bind (wpAny_pure ?_)))))
  show wpAny _ _ (match Builtin.Slice.sliceAdjust none (some 1) (-1) (n : Int) with | (lo, hi) => pure (lo, (-1 : Int), Builtin.Slice.slicePlaces lo hi (-1))) _ _ s
  rw [back_adjust hn]
  show wpAny _ _ (pure ((n : Int) - 1, (-1 : Int), Builtin.Slice.slicePlaces ((n : Int) - 1) 1 (-1))) _ _ s
  rw [back_places hn]
  exact wpAny_pure h
theorem getItem_back {t sl : Addr} {xs : List Value} {vl vu vs : Value} {Q : Value → Shared → Prop} (ht : IsTup s.heap t xs.toArray) (h2 : 2 ≤ xs.length) (h4 : xs.length ≤ 4) (hs : s.heap.IsSliceOf sl vl vu vs) (pl : IsPart vl none) (pu : IsPart vu (some 1)) (ps : IsPart vs (some (-1)))
    (h : Q (.ref s.heap.objs.size) { s with heap := s.heap.push { cls := .type "tuple", data := .seq (xs.drop 2).reverse.toArray } }) : wpAny (model prog w) A (getItem (.ref t) (.ref sl)) Q E s := by
  have few : sizeOk (.seq (xs.drop 2).reverse.toArray) := by
    show (xs.drop 2).reverse.toArray.size ≤ sizeLine
    rw [List.size_toArray, List.length_reverse, List.length_drop]
    exact Nat.le_trans (show xs.length - 2 ≤ 4 by omega) (by decide)
  obtain ⟨ob, ho, hc, hd⟩ := id hs
  have isS : s.TypeIs (.ref sl) "slice" := ⟨ob, ho, hc⟩
  unfold getItem
  try with_reducible refine wpAny_holding ?_
  first | refine wpAny_bind (wpAny_pure ?_) | skip
  refine wpAny_bind (wpAny_sequenceKey ht.typeIs (by decide) ?_)
  refine wpAny_bind (wpAny_callSpecial?_slot (name := Str.ofString "__getitem__") ht.typeIs PyProof.Rows.slot_tuple_getitem
    (wpAny_call_entry PyProof.Rows.slot_tuple_getitem ht.typeIs entry_tuple_getitem ?_ (args_tuple_getitem _ _)))
  show wpAny _ _ (Builtin.Tuple.tupleItemsOf (.ref t) >>= _) _ _ s
  refine wpAny_bind (tupleItemsOf_ ht ?_)
  refine wpAny_bind (wpAny_typeOf isS ?_)
  rw [if_pos (by decide)]
  have sz : xs.toArray.size = xs.length := List.size_toArray ..
  refine wpAny_bind (back_applied (n := xs.toArray.size) (by rw [sz]; exact h2) hs pl pu ps ?_)
  rw [sz]
  have no : ¬ ((((xs.length : Int) - 1) == 0 && (-1 : Int) == 1 && (xs.length - 2) == xs.length) = true) := by simp
  show wpAny _ _ (if (((xs.length : Int) - 1) == 0 && (-1 : Int) == 1 && (xs.length - 2) == xs.length) = true then _ else _) _ _ s
  rw [if_neg no, back_pick h2 h4]
  first
    | exact wpAny_bind (m := Builtin.Tuple.tupleExact _) (wpAny_newObj_type (wpAny_pure ⟨_, rfl, wpAny_pure h⟩) few)
    | exact wpAny_bind (m := Builtin.Tuple.tupleExact _) (wpAny_newObj_type (wpAny_bind (wpAny_pure (wpAny_pure ⟨_, rfl, wpAny_pure h⟩))) few)
    | exact wpAny_bind (wpAny_bind (m := Builtin.Tuple.tupleExact _) (wpAny_newObj_type (wpAny_pure (wpAny_pure ⟨_, rfl, wpAny_pure h⟩)) few))
    | exact wpAny_bind (wpAny_bind (m := Builtin.Tuple.tupleExact _) (wpAny_newObj_type (wpAny_pure ⟨_, rfl, wpAny_pure h⟩) few))
end
/-- t[:1:-1], t of two to four: what stands behind the second, from the end -/
def tBack (K : PySem.W.Frag) (te : TE) : TE := fun σ H Q => te σ H fun x H1 => ∃ a xs, x = .ref a ∧ SqT K H1 a xs ∧ 2 ≤ xs.length ∧ xs.length ≤ 4 ∧ ∀ p, H1 p = none → Q (.ref p) (upd H1 p (.tup (xs.drop 2).reverse))
section
variable {X : Cx}
theorem pe_back {e : Expr} {te : TE} {k k2 : Nat} {p1 p2 p3 p4 pos : Pos} (he : PE X e te) : PE X (.Subscript e (.Slice none (some (.Constant (.int 1) k2 p4)) (some (.UnaryOp .USub (.Constant (.int 1) k p1) p2)) p3) pos) (tBack X.K te) := by
  refine ⟨fun pins s σ H Q I h => ?_⟩
  refine Subscript_ (thn (he.run pins s σ H _ I h) fun v s1 ⟨x, H1, I1, r1, q1⟩ => ?_)
  obtain ⟨a, xs, ex, hx, l2, l4, q⟩ := q1
  subst ex
  cases r1
  have hlo : PO X (some (.Constant (.int 1) k2 p4)) (tPart (tC (.int 1))) := po_some pe_int
  have hst : PO X (some (.UnaryOp .USub (.Constant (.int 1) k p1) p2)) (tPart (tUn (rU fun i => .int (-i)) (tC (.int 1)))) := po_some (pe_un un_neg pe_int)
  refine wpAny_Slice (thn (po_none.run pins s1 σ H1 (fun o G => o = none ∧ G = H1) I1 ⟨rfl, rfl⟩) fun vl s2 ⟨l, H2, I2, pl, el, e2⟩ => ?_)
  subst el e2
  refine thn (hlo.run pins s2 σ H2 (fun o G => o = some 1 ∧ G = H2) I2 ⟨1, rfl, rfl, rfl⟩) fun vu s3 ⟨u, H3, I3, pu, eu, e3⟩ => ?_
  subst eu e3
  refine thn (hst.run pins s3 σ H3 (fun o G => o = some (-1) ∧ G = H3) I3 ⟨1, rfl, -1, rfl, rfl, rfl⟩) fun vs s4 ⟨o, H4, I4, ps, eo, e4⟩ => ?_
  subst eo e4
  have I5 : Inv X pins σ H4 { s4 with heap := s4.heap.push { cls := .type "slice", data := .fields #[vl, vu, vs] } } := I4.kept (t' := s4.toks) fun b ob q => Heap.get?_push_of_some _ q
  obtain ⟨its, r, ht, hz⟩ := I5.tuple hx
  have hlen := r.length
  show wpAny (model X.prog X.w) X.A (subscriptTail e (.Slice none (some (.Constant (.int 1) k2 p4)) (some (.UnaryOp .USub (.Constant (.int 1) k p1) p2)) p3) (.ref a) (.ref s4.heap.objs.size)) (EP X pins σ Q) X.xe { s4 with heap := s4.heap.push { cls := .type "slice", data := .fields #[vl, vu, vs] } }
  refine tail_any (ops := [.ref a, .ref s4.heap.objs.size]) ht.typeIs (PyProof.Rows.slot_tuple_getitem.lookup) ?_ (by with_unfolding_all rfl)
  refine getItem_back ht (by omega) (by omega) (Heap.IsSliceOf.new _ vl vu vs) pl pu ps ?_
  refine ⟨.ref _, _, I5.laid (t' := s4.toks) (o := .tup (xs.drop 2).reverse) (fun b ob q => Heap.get?_push_of_some _ q) (Nat.le_refl _) ?_, rfl, q _ (I5.hok.fresh (Nat.le_refl _))⟩
  exact ⟨by rw [List.length_reverse, List.length_drop]; omega, _, (r.drop 2).reverse, IsTup.new _ _⟩
end
end Kx
/-! Texts of terms. -/
namespace K04
open PySem PySem.Spec PyProof.Rows L2 Kx
/-- a text of signs -/
def tS (l : List Nat) : Str := ⟨l.toArray⟩
theorem tS_list (x : Str) : tS x.cps.toList = x := by
  cases x
  rfl
theorem tS_app (l m : List Nat) : tS l ++ tS m = tS (l ++ m) := by
  show Str.append _ _ = _
  unfold Str.append tS
  simp
theorem str_app (x y : Str) : (x ++ y).cps.toList = x.cps.toList ++ y.cps.toList := by
  show (Str.append x y).cps.toList = _
  unfold Str.append
  simp
theorem tS_len (l : List Nat) : (tS l).length = l.length := by
  show l.toArray.size = _
  simp
def catS (ws : List Str) : List Nat := ws.flatMap fun w => w.cps.toList
theorem catS_snoc (ws : List Str) (x : Str) : catS (ws ++ [x]) = catS ws ++ x.cps.toList := by
  simp [catS, List.flatMap_append]
theorem glue_fold (g : Array Nat) : ∀ (ps : List Str) (a : Array Nat), (ps.foldl (fun acc p => acc ++ g ++ p.cps) a).toList = a.toList ++ ps.flatMap fun p => g.toList ++ p.cps.toList
  | [], a => by simp
  | p :: ps, a => by
    rw [List.foldl_cons, glue_fold g ps, List.flatMap_cons]
    simp
theorem join_none (ws : List Str) : Txt.join "" ws = tS (catS ws) := by
  have e : (Txt.join "" ws).cps.toList = catS ws := by
    cases ws with
    | nil => rfl
    | cons x ws =>
      show (((x :: ws).drop 1).foldl (fun acc p => acc ++ (("" : Str)).cps ++ p.cps) x.cps).toList = _
      rw [glue_fold]
      rfl
  rw [← tS_list (Txt.join "" ws), e]
theorem join_comma : ∀ (w : Str) (ws : List Str), Txt.join "," (w :: ws) = tS (w.cps.toList ++ ws.flatMap fun p => 44 :: p.cps.toList)
  | w, ws => by
    have e : (Txt.join "," (w :: ws)).cps.toList = w.cps.toList ++ ws.flatMap fun p => 44 :: p.cps.toList := by
      show (((w :: ws).drop 1).foldl (fun acc p => acc ++ (("," : Str)).cps ++ p.cps) w.cps).toList = _
      rw [glue_fold]
      rfl
    rw [← tS_list (Txt.join "," (w :: ws)), e]
def nmC : PyData → List Nat
  | .str x => x.cps.toList
  | _ => []
mutual
/-- the text of a formed datum -/
def tx : PyData → List Nat
  | .tuple (d :: ds) => nmC d ++ txA ds
  | _ => []
def txA : List PyData → List Nat
  | [] => []
  | e :: es => 40 :: (tx e ++ (txM es ++ [41]))
def txM : List PyData → List Nat
  | [] => []
  | e :: es => 44 :: (tx e ++ txM es)
end
/-- what an item that waits will give -/
def rx : PyData → List Nat
  | .str x => x.cps.toList
  | d => tx d
/-- the items that wait, the last first -/
def rxs (st : List PyData) : List Nat := st.reverse.flatMap rx
theorem rxs_snoc (st : List PyData) (e : PyData) : rxs (st ++ [e]) = rx e ++ rxs st := by
  simp [rxs]
mutual
/-- the steps that an item takes -/
def wt : PyData → Nat
  | .tuple ds => wtA ds + 2
  | _ => 1
def wtA : List PyData → Nat
  | [] => 0
  | d :: ds => wt d + 1 + wtA ds
end
theorem wtA_app : ∀ l m : List PyData, wtA (l ++ m) = wtA l + wtA m
  | [], m => by simp [wtA]
  | d :: l, m => by
    rw [List.cons_append, wtA, wtA, wtA_app l m]
    omega
def wts (st : List PyData) : Nat := (st.map wt).sum
theorem wts_snoc (st : List PyData) (e : PyData) : wts (st ++ [e]) = wts st + wt e := by
  simp [wts]
theorem wt_pos (d : PyData) : 0 < wt d := by
  cases d <;> simp [wt]
/-- commas between, from the end -/
def commas : List PyData → List PyData
  | [] => []
  | d :: ds => commas ds ++ [d, .str ","]
theorem rxs_app (a b : List PyData) : rxs (a ++ b) = rxs b ++ rxs a := by
  simp [rxs]
theorem rxs_commas : ∀ (st ds : List PyData), formedAll ds = true → rxs (st ++ commas ds) = txM ds ++ rxs st
  | st, [], _ => by simp [commas, txM]
  | st, d :: ds, h => by
    rw [formedAll, Bool.and_eq_true] at h
    have ih := rxs_commas st ds h.2
    have e1 : st ++ commas (d :: ds) = (st ++ commas ds) ++ [d] ++ [.str ","] := by simp [commas]
    have e2 : rx d = tx d := by
      cases d with
      | str x => cases h.1
      | _ => rfl
    rw [e1, rxs_snoc, rxs_snoc, ih, txM, e2]
    show [44] ++ _ = _
    simp
theorem wts_commas : ∀ (ds : List PyData), wts (commas ds) = wtA ds
  | [] => rfl
  | d :: ds => by
    have ih := wts_commas ds
    have e : commas (d :: ds) = commas ds ++ [d] ++ [.str ","] := by simp [commas]
    rw [e, wts_snoc, wts_snoc, ih, wtA]
    simp only [wt]
    omega
end K04
/-! written. -/
namespace K04
open PySem PySem.Spec PyProof.Rows L2 Kx
theorem wts_len : ∀ st : List PyData, st.length ≤ wts st
  | [] => Nat.le_refl _
  | e :: st => by
    have := wts_len st
    have := wt_pos e
    simp only [wts, List.map_cons, List.sum_cons, List.length_cons] at *
    omega
theorem commas_len : ∀ ds : List PyData, (commas ds).length = 2 * ds.length
  | [] => rfl
  | d :: ds => by
    have := commas_len ds
    simp only [commas, List.length_append, List.length_cons, List.length_nil]
    omega
theorem wts_app (a b : List PyData) : wts (a ++ b) = wts a + wts b := by simp [wts]
theorem commas_ok : ∀ {ds : List PyData}, formedAll ds = true → ∀ e, e ∈ commas ds → formedD e = true ∨ ∃ y, e = .str y
  | [], _, e, h => nomatch h
  | d :: ds, hf, e, h => by
    rw [formedAll, Bool.and_eq_true] at hf
    rcases List.mem_append.mp h with h | h
    · exact commas_ok hf.2 e h
    · rcases List.mem_cons.mp h with rfl | h
      · exact .inl hf.1
      · rw [List.mem_singleton.mp h]
        exact .inr ⟨_, rfl⟩
theorem drop_at {α : Type} {l : List α} {j : Nat} {y : α} (h : l[j]? = some y) : l.drop j = y :: l.drop (j + 1) := by
  have lt := (List.getElem?_eq_some_iff.mp h).1
  rw [List.getElem?_eq_getElem lt] at h
  rw [List.drop_eq_getElem_cons lt, Option.some.inj h]
theorem rev_at {α : Type} {l : List α} {i : Nat} {y : α} (h : l.reverse[i]? = some y) : i < l.length ∧ l[l.length - 1 - i]? = some y := by
  have lt := (List.getElem?_eq_some_iff.mp h).1
  rw [List.length_reverse] at lt
  rw [List.getElem?_reverse lt] at h
  exact ⟨lt, h⟩
def okI (e : PyData) : Prop := formedD e = true ∨ ∃ y, e = .str y
section
variable {P : Program} {w : World} {K : PySem.W.Frag} {mg : Str → Option Value} {base : Heap}
def spWr (K : PySem.W.Frag) : Sp := fun vs H Q _ => ∃ (x : V) (d : PyData), vs = [x] ∧ Dx K H x d ∧ formedD d = true ∧ wt d ≤ 100000 ∧ (tx d).length ≤ 1000000 ∧ ∀ H', Same H H' → Q (.str (tS (tx d))) H'
theorem ok_wr (T : Tx K mg) : FnOk P w K mg base CX0 1 T.awritten T.dwritten ["term"] (spWr K) := by
  have nd := sc_written.nd
  refine T.fwritten.ok sc_written (fun vs H Q E h => ?_) (fun cdv A outer s H vs Q E hr h => ?_)
  · obtain ⟨x, d, rfl, _⟩ := h
    rfl
  · obtain ⟨x, d, rfl, hx, hf, hw, hl, q⟩ := h
    refine ⟨_, (pss_cons (ps_set (i := 1) nd rfl (.inl rfl) (pe_lst pa_nil))
      (pss_cons (ps_set (i := 2) nd rfl (.inl rfl) (pe_lst (pa_cons (pv 0) pa_nil)))
      (pss_cons (ps_while PassesOwn.never (pt_truth (pv 2) (by intro _; rfl)) (pss_cons (ps_set (i := 3) nd rfl (.inl rfl) (pe_bm0 PySem.F.plainAttrs_list PySem.F.slot_list_pop PySem.F.type_list_pop mt_pop (pv 2)))
      (pss_one (ps_if (pt_val (pe_callB call_isi (by rfl) T.b_isinstance (by decide +kernel) (pa_cons (pv 3) (pa_cons (pe_bltn (v := .ty "str") (by rfl) T.b_str (by decide +kernel) rfl) pa_nil)))) (pss_one (ps_expr (pe_bm PySem.F.plainAttrs_list PySem.F.slot_list_append PySem.F.type_list_append mt_append (pv 1) (pa_cons (pv 3) pa_nil)))) (pss_one (ps_if (pt_cmpR op_eq (pe_callB call_len_seq (by rfl) T.b_len (by decide +kernel) (pa_cons (pv 3) pa_nil)) pe_int (nomark _)) (pss_one (ps_expr (pe_bm PySem.F.plainAttrs_list PySem.F.slot_list_append PySem.F.type_list_append mt_append (pv 1) (pa_cons (pe_ix ix_tup (pv 3) pe_int (fun _ _ => rfl)) pa_nil)))) (pss_cons (ps_expr (pe_bm PySem.F.plainAttrs_list PySem.F.slot_list_append PySem.F.type_list_append mt_append (pv 1) (pa_cons (pe_op op_add_str (pe_ix ix_tup (pv 3) pe_int (fun _ _ => rfl)) pe_str) pa_nil)))
      (pss_cons (ps_expr (pe_bm PySem.F.plainAttrs_list PySem.F.slot_list_append PySem.F.type_list_append mt_append (pv 2) (pa_cons pe_str pa_nil)))
      (pss_cons (ps_for PassesOwn.never rfl (pi_tup (pe_back (pv 3))) (pg_name (i := 4) nd rfl (.inl rfl)) (pss_cons (ps_expr (pe_bm PySem.F.plainAttrs_list PySem.F.slot_list_append PySem.F.type_list_append mt_append (pv 2) (pa_cons (pv 4) pa_nil)))
      (pss_one (ps_expr (pe_bm PySem.F.plainAttrs_list PySem.F.slot_list_append PySem.F.type_list_append mt_append (pv 2) (pa_cons pe_str pa_nil))))))
      (pss_one (ps_expr (pe_bm PySem.F.plainAttrs_list PySem.F.slot_list_append PySem.F.type_list_append mt_append (pv 2) (pa_cons (pe_ix ix_tup (pv 3) pe_int (fun _ _ => rfl)) pa_nil)))))))))))))
      (pss_one (ps_ret (pe_bm PySem.F.plainAttrs_str PySem.F.slot_str_join PySem.F.type_str_join mt_join pe_str (pa_cons (pv 1) pa_nil))))))), ?_⟩
    refine ⟨Nat.zero_le _, fun wl nwl => ?_⟩
    have s1 := same_put (o := .lst []) nwl
    refine ⟨_, rfl, (by show 1 ≤ sizeLine; decide), fun pl npl => ?_⟩
    have npl0 : H pl = none := by
      cases e : H pl with
      | none => rfl
      | some o =>
        rw [s1 _ _ e] at npl
        cases npl
    have nwp : wl ≠ pl := ne_of_none upd_same npl
    have big : ∀ {n : Nat}, n ≤ 200000 → n < sizeLine := fun h => Nat.lt_of_le_of_lt h (by decide)
    refine ⟨fun m σ H2 => (∃ y3 y4, σ = [some x, some (.ref wl), some (.ref pl), y3, y4]) ∧ ∃ (us : List V) (st : List PyData) (ws : List Str), m = wts st ∧ H2 pl = some (.lst us) ∧ H2 wl = some (.lst (ws.map V.str)) ∧ Same H H2 ∧ DxAll K H us st ∧ (∀ e, e ∈ st → okI e) ∧ ws.length + wts st ≤ wt d ∧ catS ws ++ rxs st = tx d,
      ⟨wts [d], ⟨none, none, rfl⟩, [x], [d], [], rfl, upd_same, ?_, s1.trans (same_put npl), .cons hx .nil, fun e he => ?_, ?_, ?_⟩, ?_⟩
    · rw [upd_ne nwp, upd_same]
      rfl
    · rw [List.mem_singleton.mp he]
      exact .inl hf
    · show 0 + wts [d] ≤ wt d
      simp [wts]
    · cases d with
      | str y => cases hf
      | _ => simp [catS, rxs, rx]
    rintro m σ H2 ⟨⟨y3, y4, rfl⟩, us, st, ws, rfl, ep, ew, sm, dx, ok, bd, tot⟩
    refine ⟨_, rfl, _, .inl ⟨us, .inl (.inl ep), rfl⟩, ?_⟩
    rcases snoc_or st with rfl | ⟨st, e, rfl⟩
    · cases dx
      refine iteF ⟨rfl, _, rfl, "", wl, ws, rfl, rfl, .inl (.inl (.inl ew)), ?_, ?_⟩
      · have e1 : (ws.map (·.length)).sum = (catS ws).length := by
          clear ew bd tot
          induction ws with
          | nil => rfl
          | cons a ws ih =>
            rw [List.map_cons, List.sum_cons, ih]
            show _ = (a.cps.toList ++ catS ws).length
            rw [List.length_append, Array.length_toList]
            rfl
        have e2 : catS ws = tx d := by
          rw [← tot]
          simp [rxs]
        rw [e1, e2]
        show _ + ws.length * 0 ≤ _
        omega
      · rw [join_none]
        have e2 : catS ws = tx d := by
          rw [← tot]
          simp [rxs]
        rw [e2]
        exact q H2 sm
    obtain ⟨us, v, rfl, dx', hv⟩ := snocDx dx
    have ne : (!(us ++ [v]).isEmpty) = true := by cases us <;> rfl
    rw [ne]
    rw [wts_snoc] at bd
    rw [rxs_snoc] at tot
    have oke := ok e (by simp)
    have ok' : ∀ e, e ∈ st → okI e := fun a ha => ok a (by simp [ha])
    have wpos := wt_pos e
    have lus := dx'.length
    have lst' : st.length ≤ wts st := wts_len st
    refine iteT ⟨fun σ' H' => ∃ m', m' < wts (st ++ [e]) ∧ _, fun _ _ h => h, ?_⟩
    refine ⟨_, rfl, .inl ⟨rfl, _, .inl (.inl ep)⟩, pl, _, v, rfl, rfl, ep, by simp, ?_⟩
    rw [List.dropLast_concat]
    have sm3 : Same H (upd H2 pl (.lst us)) := fun c o hc => by
      rw [upd_ne (ne_of_none hc npl0)]
      exact sm c o hc
    have ew3 : (upd H2 pl (.lst us)) wl = some (.lst (ws.map V.str)) := by
      rw [upd_ne nwp]
      exact ew
    have ep3 : (upd H2 pl (.lst us)) pl = some (.lst us) := upd_same
    generalize upd H2 pl (.lst us) = H3 at sm3 ew3 ep3 ⊢
    refine ⟨_, rfl, v, .ty "str", _, _, _, rfl, .ty _, (hv.up sm3).ty, kit_ty (kit_str e), _, rfl, ?_⟩
    have lws : ws.length ≤ 100000 := by omega
    have lst3 : us.length ≤ 100000 := by omega
    rcases oke with fe | ⟨y, rfl⟩
    · -- a term
      obtain ⟨nm, es, rfl, l3, hnm, hfa⟩ := formed_shape fe
      cases hv with
      | @tup b xs _ hb hs =>
      cases hs with
      | @cons v0 vs0 _ _ h0 hws =>
      cases h0
      have lw := hws.length
      have hb3 := sm3 _ _ hb
      have hn8 : nm.length ≤ 8 := by
        simp only [isNm, Bool.and_eq_true, decide_eq_true_eq] at hnm
        exact hnm.1.2
      refine iteF ⟨_, rfl, b, _, rfl, .inr (SqT.of hb3), rfl, _, rfl, ite2 (fun e1 => ?_) (fun e1 => ?_)⟩
      · -- of a name alone
        have n0 : es = [] := by
          have z := V.int.inj (of_decide_eq_true e1)
          refine List.eq_nil_of_length_eq_zero ?_
          rw [List.length_cons] at z
          omega
        subst n0
        refine ⟨_, rfl, .inl ⟨rfl, _, .inl (.inl ew3)⟩, _, rfl, b, _, 0, .str nm, rfl, rfl, SqT.of hb3, atI_nat (j := 0) rfl, wl, _, .str nm, rfl, rfl, ew3, big (by rw [List.length_map]; omega), ?_⟩
        refine ⟨wts st, by rw [wts_snoc]; omega, ⟨_, _, rfl⟩, us, st, ws ++ [nm], rfl, by rw [upd_ne nwp.symm]; exact ep3, by rw [upd_same, List.map_append]; rfl, fun c o hc => ?_, dx', ok', by rw [List.length_append]; simp only [List.length_singleton]; omega, ?_⟩
        · rw [upd_ne (ne_of_none hc nwl)]
          exact sm3 c o hc
        · rw [catS_snoc, ← tot]
          simp [rx, tx, nmC, txA]
      · -- with others
        cases hws with
        | nil => exact absurd rfl e1
        | @cons v1 vr e1d rest hv1 hrest =>
        have lr := hrest.length
        have hfa2 : formedD e1d = true ∧ formedAll rest = true := by simpa [formedAll] using hfa
        have lrest : rest.length ≤ 2 := by
          rw [List.length_cons] at l3
          omega
        have wte : wt (.tuple (.str nm :: e1d :: rest)) = wt e1d + 1 + wtA rest + 4 := by
          simp only [wt, wtA]
          omega
        rw [wte] at bd
        have wp1 := wt_pos e1d
        refine ⟨_, rfl, .inl ⟨rfl, _, .inl (.inl ew3)⟩, _, rfl, b, _, 0, .str nm, rfl, rfl, SqT.of hb3, atI_nat (j := 0) rfl, nm, "(", rfl, rfl, Nat.le_of_lt (small1000 (by show nm.length + 1 ≤ 1000; omega)), wl, _, _, rfl, rfl, ew3, big (by rw [List.length_map]; omega), ?_⟩
        have sm4 : Same H (upd H3 wl (.lst (ws.map V.str ++ [.str (nm ++ "(")]))) := fun c o hc => by
          rw [upd_ne (ne_of_none hc nwl)]
          exact sm3 c o hc
        have ep4 : (upd H3 wl (.lst (ws.map V.str ++ [.str (nm ++ "(")]))) pl = some (.lst us) := by
          rw [upd_ne nwp.symm]
          exact ep3
        have ew4 : (upd H3 wl (.lst (ws.map V.str ++ [.str (nm ++ "(")]))) wl = some (.lst ((ws ++ [nm ++ "("]).map V.str)) := by
          rw [upd_same, List.map_append]
          rfl
        generalize upd H3 wl (.lst (ws.map V.str ++ [.str (nm ++ "(")])) = H4 at sm4 ep4 ew4 ⊢
        refine ⟨_, rfl, .inl ⟨rfl, _, .inl (.inl ep4)⟩, pl, us, .str ")", rfl, rfl, ep4, big (by omega), ?_⟩
        have put : ∀ {G : Hp} {xs : List V}, Same H G → G wl = some (.lst ((ws ++ [nm ++ "("]).map V.str)) → Same H (upd G pl (.lst xs)) ∧ (upd G pl (.lst xs)) wl = some (.lst ((ws ++ [nm ++ "("]).map V.str)) := fun sG eG => ⟨fun c o hc => by
            rw [upd_ne (ne_of_none hc npl0)]
            exact sG c o hc, by
            rw [upd_ne nwp]
            exact eG⟩
        obtain ⟨sm5, ew5⟩ := put (xs := us ++ [.str ")"]) sm4 ew4
        have ep5 : (upd H4 pl (.lst (us ++ [.str ")"]))) pl = some (.lst (us ++ [.str ")"])) := upd_same
        generalize upd H4 pl (.lst (us ++ [.str ")"])) = H5 at sm5 ep5 ew5 ⊢
        have hb5 := sm5 _ _ hb
        have lvr : (V.str nm :: v1 :: vr).length ≤ 4 := by
          rw [List.length_cons, List.length_cons]
          omega
        refine ⟨_, rfl, b, _, rfl, SqT.of hb5, by rw [List.length_cons, List.length_cons]; omega, lvr, fun u nu => ⟨u, rfl, ⟨_, SqT.of upd_same⟩, ?_⟩⟩
        have su := same_put (o := .tup ((V.str nm :: v1 :: vr).drop 2).reverse) nu
        have npu : pl ≠ u := ne_of_none ep5 nu
        refine for_tup (K := K) (a := u) (xs := ((V.str nm :: v1 :: vr).drop 2).reverse) (fun i σ H6 => (∃ y5, σ = [some x, some (.ref wl), some (.ref pl), some (.ref b), y5]) ∧ Same H H6 ∧ H6 wl = some (.lst ((ws ++ [nm ++ "("]).map V.str)) ∧ H6 u = some (.tup ((V.str nm :: v1 :: vr).drop 2).reverse) ∧ ∃ (ys : List V), H6 pl = some (.lst (us ++ [.str ")"] ++ ys)) ∧ DxAll K H ys (commas (rest.drop (rest.length - i))))
          ⟨⟨_, rfl⟩, sm5.trans su, su _ _ ew5, upd_same, [], by rw [List.append_nil]; exact su _ _ ep5, by simp [commas]; exact .nil⟩ (fun i σ H6 _ h => SqT.of h.2.2.2.1) ?_ ?_
        · rintro i y σ H6 hi ⟨⟨y5, rfl⟩, s6, ew6, eu6, ys, ep6, dys⟩
          obtain ⟨lti, hi⟩ := rev_at hi
          have lvv : ((V.str nm :: v1 :: vr).drop 2).length = rest.length := lr
          rw [lvv] at lti hi
          have hi : vr[rest.length - 1 - i]? = some y := hi
          have lt : rest.length - 1 - i < rest.length := by omega
          have gd := List.getElem?_eq_getElem lt
          obtain ⟨v2, hv2, dv2⟩ := hrest.get gd
          rw [hi] at hv2
          cases hv2
          have ed : rest.drop (rest.length - (i + 1)) = rest[rest.length - 1 - i] :: rest.drop (rest.length - i) := by
            rw [show rest.length - (i + 1) = rest.length - 1 - i by omega, drop_at gd, show rest.length - 1 - i + 1 = rest.length - i by omega]
          have lys := dys.length
          rw [commas_len, List.length_drop] at lys
          have lbig : (us ++ [V.str ")"] ++ ys).length ≤ 100010 := by
            rw [List.length_append, List.length_append, List.length_singleton]
            omega
          refine ⟨_, rfl, .inl ⟨rfl, _, .inl (.inl ep6)⟩, _, rfl, pl, _, y, rfl, rfl, ep6, big (by omega), ?_⟩
          obtain ⟨s7, ew7⟩ := put (xs := us ++ [.str ")"] ++ ys ++ [y]) s6 ew6
          have eu7 : (upd H6 pl (.lst (us ++ [.str ")"] ++ ys ++ [y]))) u = some (.tup ((V.str nm :: v1 :: vr).drop 2).reverse) := by
            rw [upd_ne npu.symm]
            exact eu6
          refine ⟨_, rfl, .inl ⟨rfl, _, .inl (.inl upd_same)⟩, pl, _, .str ",", rfl, rfl, upd_same, big (by rw [List.length_append, List.length_singleton]; omega), ?_⟩
          obtain ⟨s8, ew8⟩ := put (xs := us ++ [.str ")"] ++ ys ++ [y] ++ [.str ","]) s7 ew7
          refine ⟨⟨_, rfl⟩, s8, ew8, ?_, ys ++ [y, .str ","], ?_, ?_⟩
          · rw [upd_ne npu.symm]
            exact eu7
          · rw [upd_same]
            simp
          · rw [ed, commas]
            exact DxAll.append dys (.cons dv2 (.cons (.str _) .nil))
        · rintro σ H6 ⟨⟨y5, rfl⟩, s6, ew6, eu6, ys, ep6, dys⟩
          have lvv : ((V.str nm :: v1 :: vr).drop 2).reverse.length = rest.length := by
            rw [List.length_reverse]
            exact lr
          rw [lvv, Nat.sub_self, List.drop_zero] at dys
          have lys := dys.length
          rw [commas_len] at lys
          have hb6 := s6 _ _ hb
          have lbig : (us ++ [V.str ")"] ++ ys).length ≤ 100010 := by
            rw [List.length_append, List.length_append, List.length_singleton]
            omega
          refine ⟨_, rfl, .inl ⟨rfl, _, .inl (.inl ep6)⟩, _, rfl, b, _, 1, v1, rfl, rfl, SqT.of hb6, atI_nat (j := 1) rfl, pl, _, v1, rfl, rfl, ep6, big (by omega), ?_⟩
          obtain ⟨s7, ew7⟩ := put (xs := us ++ [.str ")"] ++ ys ++ [v1]) s6 ew6
          have wc := wts_commas rest
          refine ⟨wts (st ++ [.str ")"] ++ commas rest ++ [e1d]), ?_, ⟨_, _, rfl⟩, us ++ [.str ")"] ++ ys ++ [v1], st ++ [.str ")"] ++ commas rest ++ [e1d], ws ++ [nm ++ "("], rfl, upd_same, ew7, s7, ?_, fun e he => ?_, ?_, ?_⟩
          · rw [wts_snoc, wts_snoc, wts_app, wts_snoc, wc, wte]
            show wts st + 1 + wtA rest + wt e1d < _
            omega
          · exact DxAll.append (DxAll.append (DxAll.append dx' (.cons (.str _) .nil)) dys) (.cons hv1 .nil)
          · rcases List.mem_append.mp he with he | he
            · rcases List.mem_append.mp he with he | he
              · rcases List.mem_append.mp he with he | he
                · exact ok' e he
                · rw [List.mem_singleton.mp he]
                  exact .inr ⟨_, rfl⟩
              · exact commas_ok hfa2.2 e he
            · rw [List.mem_singleton.mp he]
              exact .inl hfa2.1
          · rw [wts_snoc, wts_app, wts_snoc, wc, List.length_append, List.length_singleton]
            show _ + 1 + (wts st + 1 + wtA rest + wt e1d) ≤ _
            omega
          · have e2 : rx e1d = tx e1d := by
              cases e1d with
              | str y => cases hfa2.1
              | _ => rfl
            rw [rxs_snoc, rxs_commas _ _ hfa2.2, rxs_snoc, catS_snoc, ← tot, str_app, e2]
            show catS ws ++ (nm.cps.toList ++ [40]) ++ (tx e1d ++ (txM rest ++ ([41] ++ rxs st))) = catS ws ++ ((nm.cps.toList ++ 40 :: (tx e1d ++ (txM rest ++ [41]))) ++ rxs st)
            simp
    · -- a sign
      refine iteT ?_
      cases hv
      refine ⟨_, rfl, .inl ⟨rfl, _, .inl (.inl ew3)⟩, _, rfl, wl, _, .str y, rfl, rfl, ew3, big (by rw [List.length_map]; omega), ?_⟩
      refine ⟨wts st, by rw [wts_snoc]; omega, ⟨_, _, rfl⟩, us, st, ws ++ [y], rfl, by rw [upd_ne nwp.symm]; exact ep3, by rw [upd_same, List.map_append]; rfl, fun c o hc => ?_, dx', ok', by rw [List.length_append]; simp only [List.length_singleton]; omega, ?_⟩
      · rw [upd_ne (ne_of_none hc nwl)]
        exact sm3 c o hc
      · rw [catS_snoc, ← tot]
        simp [rx]
end
end K04
/-! Slices and sums of tuples as data. -/
namespace Kx
open PySem PySem.Spec PyProof.Rows L2
theorem offs_nil {H : Hp} : Same H (OffS [] H) := fun b o h => OffS.out (fun z => nomatch z) h
theorem olds_nil {H : Hp} : Olds [] H := fun b z => nomatch z
section
variable {K : PySem.W.Frag} {S : List Addr} {H : Hp} {x y : V} {ds es : List PyData} {Q : VK}
theorem sl_upto {i : Nat} (hx : Dx K (OffS S H) x (.tuple ds)) (o : Olds S H) (q : ∀ y H', Same H H' → Dx K (OffS S H') y (.tuple (ds.take i)) → Q y H') : rSlA K x none (some (i : Int)) H Q := by
  cases hx with
  | @tup a xs _ ha hs =>
  refine ⟨a, xs, rfl, SqT.of (OffS.all _ _ ha), fun z => ?_, fun _ p np => ?_⟩
  · have e : min i xs.length = xs.length := by
      have := z.2
      rwa [show HT.sIx xs.length xs.length (some (i : Int)) = min i xs.length from HT.sIx_nat xs.length xs.length i] at this
    refine q _ _ (Same.refl H) ?_
    rw [List.take_of_length_le (by rw [← hs.length]; omega)]
    exact .tup ha hs
  · have e : cutV xs none (some (i : Int)) = xs.take i := by
      unfold cutV
      rw [show HT.sIx xs.length xs.length (some (i : Int)) = min i xs.length from HT.sIx_nat xs.length xs.length i, show HT.sIx xs.length 0 none = 0 from rfl, List.drop_zero, Nat.sub_zero]
      by_cases e : i ≤ xs.length
      · rw [Nat.min_eq_left e]
      · rw [Nat.min_eq_right (by omega), List.take_length, List.take_of_length_le (by omega)]
    rw [e]
    exact q _ _ (same_put np) (.tup (OffS.out (o.new np) upd_same) ((hs.take i).up (OffS.same (same_put np))))
theorem sl_from {i : Nat} (hx : Dx K (OffS S H) x (.tuple ds)) (o : Olds S H) (q : ∀ y H', Same H H' → Dx K (OffS S H') y (.tuple (ds.drop i)) → Q y H') : rSlA K x (some (i : Int)) none H Q := by
  cases hx with
  | @tup a xs _ ha hs =>
  refine ⟨a, xs, rfl, SqT.of (OffS.all _ _ ha), fun z => ?_, fun _ p np => ?_⟩
  · have e : min i xs.length = 0 := by
      have := z.1
      rwa [show HT.sIx xs.length 0 (some (i : Int)) = min i xs.length from HT.sIx_nat xs.length 0 i] at this
    refine q _ _ (Same.refl H) ?_
    by_cases h : i = 0
    · rw [h, List.drop_zero]
      exact .tup ha hs
    · have : ds = [] := List.eq_nil_of_length_eq_zero (by rw [← hs.length]; omega)
      rw [this] at hs ⊢
      rw [List.drop_nil]
      exact .tup ha hs
  · have e : cutV xs (some (i : Int)) none = xs.drop i := by
      unfold cutV
      rw [show HT.sIx xs.length 0 (some (i : Int)) = min i xs.length from HT.sIx_nat xs.length 0 i, HT.sIx_none]
      by_cases e : i ≤ xs.length
      · rw [Nat.min_eq_left e, List.take_of_length_le (by rw [List.length_drop]; omega)]
      · rw [Nat.min_eq_right (by omega), Nat.sub_self, List.take_zero, List.drop_eq_nil_of_le (by omega)]
    rw [e]
    exact q _ _ (same_put np) (.tup (OffS.out (o.new np) upd_same) ((hs.drop i).up (OffS.same (same_put np))))
theorem cat_tups (hx : Dx K (OffS S H) x (.tuple ds)) (hy : Dx K (OffS S H) y (.tuple es)) (o : Olds S H) (few : ds.length + es.length ≤ sizeLine) (q : ∀ z H', Same H H' → Dx K (OffS S H') z (.tuple (ds ++ es)) → Q z H') : rCatA K x y H Q := by
  cases hx with
  | @tup a xs _ ha hs =>
  cases hy with
  | @tup b ys _ hb ht =>
  refine ⟨a, b, xs, ys, rfl, rfl, SqT.of (OffS.all _ _ ha), SqT.of (OffS.all _ _ hb), by rw [hs.length, ht.length]; exact few, fun e => ?_, fun _ e => ?_, fun _ _ p np => ?_⟩
  · subst e
    cases hs
    exact q _ _ (Same.refl H) (.tup hb ht)
  · subst e
    cases ht
    rw [List.append_nil] at q
    exact q _ _ (Same.refl H) (.tup ha hs)
  · exact q _ _ (same_put np) (.tup (OffS.out (o.new np) upd_same) (DxAll.append (hs.up (OffS.same (same_put np))) (ht.up (OffS.same (same_put np)))))
end
end Kx
/-! text_of, and the law's own texts. -/
namespace K04
open PySem PySem.Spec PyProof.Rows L2 Kx
theorem tx_part {ds : List PyData} {i : Nat} {d : PyData} : ds[i]? = some d → (tx d).length ≤ (txM ds).length := by
  induction ds generalizing i with
  | nil => intro h; simp at h
  | cons e ds ih =>
    intro h
    rw [txM, List.length_cons, List.length_append]
    cases i with
    | zero =>
      simp at h
      rw [h]
      omega
    | succ i =>
      have := ih (i := i) (by simpa using h)
      omega
theorem txA_len (ds : List PyData) : (txM ds).length ≤ (txA ds).length := by
  cases ds with
  | nil => exact Nat.le_refl _
  | cons e ds =>
    simp only [txM, txA, List.length_cons, List.length_append]
    omega
theorem txM_sum : ∀ l : List PyData, ((l.map fun e => tS (tx e)).map (·.length)).sum + l.length = (txM l).length
  | [] => rfl
  | e :: l => by
    have := txM_sum l
    rw [List.map_cons, List.map_cons, List.sum_cons, tS_len, List.length_cons, txM, List.length_cons, List.length_append]
    omega
section
variable {P : Program} {w : World} {K : PySem.W.Frag} {mg : Str → Option Value} {base : Heap}
def spTo (K : PySem.W.Frag) : Sp := fun vs H Q _ => ∃ (x : V) (d : PyData), vs = [x] ∧ Dz K H x d ∧ termD d = true ∧ wt d ≤ 100000 ∧ (tx d).length ≤ 1000000 ∧ ∀ H', Same H H' → Q (.str (tS (tx d))) H'
theorem ok_to (T : Tx K mg) : FnOk P w K mg base CX0 6 T.atext_of T.dtext_of ["term"] (spTo K) := by
  have nd := sc_text_of.nd
  have G1 := ok_check (P := P) (w := w) (base := base) T
  have G2 := ok_wr (P := P) (w := w) (base := base) T
  refine T.ftext_of.ok sc_text_of (fun vs H Q E h => ?_) (fun cdv A outer s H vs Q E hr h => ?_)
  · obtain ⟨x, d, rfl, _⟩ := h
    rfl
  · obtain ⟨x, d, rfl, dz, ht, hw, hl, q⟩ := h
    refine ⟨_, (pss_cons (ps_expr (pe_call G1 (hr.mono (by omega)) (by rfl) T.gcheck_term T.fcheck_term.kp T.ncheck_term .nil pass0 (pa_cons (pv 0) pa_nil)))
      (pss_one (ps_ret (pe_call G2 (hr.mono (by omega)) (by rfl) T.gwritten T.fwritten.kp T.nwritten .nil pass0 (pa_cons (pv 0) pa_nil))))), ?_⟩
    have hf : formedD d = true := by
      simp only [termD, Bool.and_eq_true] at ht
      exact ht.1
    exact ⟨_, rfl, x, d, rfl, dz, ht, fun H1 s1 => ⟨_, rfl, x, d, rfl, dz.1.up s1, hf, hw, hl, fun H2 s2 => q H2 (s1.trans s2)⟩⟩
def spTxt (K : PySem.W.Frag) (n : Nat) : Sp := fun vs H Q _ => ∃ (x : V) (d : PyData), vs = [x] ∧ Dx K H x d ∧ formedD d = true ∧ d.depth ≤ n ∧ (tx d).length ≤ 1000000 ∧ ∀ H', Same H H' → Q (.str (tS (tx d))) H'
theorem ok_txt (T : Tx K mg) : ∀ n, FnOk P w K mg base CX0 (n + 1) T.a_law_text T.d_law_text ["term"] (spTxt K n)
  | 0 => by
    refine T.f_law_text.ok sc__law_text (fun vs H Q E h => ?_) (fun cdv A outer s H vs Q E hr h => ?_)
    · obtain ⟨x, d, rfl, _⟩ := h
      rfl
    · exfalso
      obtain ⟨x, d, rfl, hx, hf, hd, _⟩ := h
      obtain ⟨z, ds, rfl, _⟩ := formed_shape hf
      simp [PyData.depth] at hd
  | n + 1 => by
    have nd := sc__law_text.nd
    have G := ok_txt T n
    refine T.f_law_text.ok sc__law_text (fun vs H Q E h => ?_) (fun cdv A outer s H vs Q E hr h => ?_)
    · obtain ⟨x, d, rfl, _⟩ := h
      rfl
    · obtain ⟨x, d, rfl, hx, hf, hd, hl, q⟩ := h
      refine ⟨_, (pss_cons (ps_if (pt_cmpR op_eq (pe_callB call_len_seq (by rfl) T.b_len (by decide +kernel) (pa_cons (pv 0) pa_nil)) pe_int (nomark _)) (pss_one (ps_ret (pe_ix ix_tup (pv 0) pe_int (fun _ _ => rfl)))) pss_nil)
      (pss_one (ps_ret (pe_op op_add_str (pe_op op_add_str (pe_op op_add_str (pe_ix ix_tup (pv 0) pe_int (fun _ _ => rfl)) pe_str) (pe_bm PySem.F.plainAttrs_str PySem.F.slot_str_join PySem.F.type_str_join mt_join pe_str (pa_cons (pe_lc (own := [("part", 1)]) (g := (gName 1)) (tt := tYes) (by rfl) nd (pi_tup (pe_slice sl_tupA (pv 0) (po_some pe_int) po_none)) (blkOk_by (own := [("part", 1)]) (N := N__law_text) (sc := defScope s__law_text) (by decide +kernel)) (fun _ _ _ _ _ => pg_name (i := 1) nd rfl (.inl rfl)) (fun _ _ _ _ _ => pts_nil) (fun _ _ _ _ _ => (pe_call G (hr.mono (by omega)) (by rfl) T.g_law_text T.f_law_text.kp T.n_law_text .nil pass0 (pa_cons (pv 1) pa_nil)))) pa_nil))) pe_str)))), ?_⟩
      obtain ⟨nm, ds, rfl, l3, hnm, hfa⟩ := formed_shape hf
      cases hx with
      | @tup b xs _ hb hs =>
      cases hs with
      | @cons v0 vs0 _ _ h0 hws =>
      cases h0
      have lw := hws.length
      have hn8 : nm.length ≤ 8 := by
        simp only [isNm, Bool.and_eq_true, decide_eq_true_eq] at hnm
        exact hnm.1.2
      refine ⟨_, rfl, b, _, rfl, .inr (SqT.of hb), rfl, _, rfl, ite2 (fun e1 => ?_) (fun e1 => ?_)⟩
      · have n0 : ds = [] := by
          have z := V.int.inj (of_decide_eq_true e1)
          refine List.eq_nil_of_length_eq_zero ?_
          rw [List.length_cons] at z
          omega
        subst n0
        have := q H (Same.refl H)
        rw [show tS (tx (.tuple [.str nm])) = nm by simp [tx, nmC, txA, tS_list]] at this
        exact ⟨_, rfl, b, _, 0, .str nm, rfl, rfl, SqT.of hb, atI_nat (j := 0) rfl, this⟩
      · cases hws with
        | nil => exact absurd rfl e1
        | @cons v1 vr d1 rest hv1 hrest =>
        have hw2 : DxAll K H (v1 :: vr) (d1 :: rest) := .cons hv1 hrest
        have dd : PyData.depthAll (d1 :: rest) ≤ n := by
          simp only [PyData.depth, PyData.depthAll] at hd ⊢
          omega
        have lenA : (txM (d1 :: rest)).length ≤ 1000000 := by
          have := txA_len (d1 :: rest)
          have e : tx (.tuple (.str nm :: d1 :: rest)) = nm.cps.toList ++ txA (d1 :: rest) := by simp [tx, nmC]
          rw [e, List.length_append] at hl
          omega
        refine ⟨_, rfl, b, _, 0, .str nm, rfl, rfl, SqT.of hb, atI_nat (j := 0) rfl, nm, "(", rfl, rfl, Nat.le_of_lt (small1000 (by show nm.length + 1 ≤ 1000; omega)), ?_⟩
        refine ⟨rfl, _, rfl, 1, rfl, ?_⟩
        dsimp only [tNoPart]
        refine sl_from (S := []) (i := 1) ((Dx.tup hb (.cons (.str nm) hw2)).up offs_nil) olds_nil fun y H1 s1 dy => ?_
        have dy := dy.up OffS.all
        rw [List.drop_one, List.tail_cons] at dy
        cases dy with
        | @tup c us _ hc hus =>
        refine ⟨c, rfl, ⟨_, SqT.of hc⟩, fun D nD => ?_⟩
        have lus := hus.length
        have l3' : us.length ≤ 3 := by omega
        refine lc_tup (K := K) (a := c) (xs := us) (fun i H2 => Same H1 H2 ∧ H2 D = some (.lst (((d1 :: rest).take i).map fun e => V.str (tS (tx e))))) ⟨same_put nD, upd_same⟩ (fun i H2 _ h => SqT.of (h.1 _ _ hc)) ?_ ?_
        · rintro i y H2 hi ⟨s2, e2⟩
          have lt : i < (d1 :: rest).length := by
            rw [← lus]
            exact (List.getElem?_eq_some_iff.mp hi).1
          have gd := List.getElem?_eq_getElem lt
          obtain ⟨v2, hv2, dv2⟩ := hus.get gd
          rw [hi] at hv2
          cases hv2
          have tl := tx_part gd
          refine ⟨rfl, (iteT (B := False) ?_ : if true = true then _ else False)⟩
          refine ⟨_, rfl, y, _, rfl, dv2.up s2, formedAll_get hfa gd, Nat.le_trans (depthAll_get gd) dd, by omega, fun H3 s3 => ⟨_, s3 _ _ e2, ?_, fun o ob ho => ?_, ?_⟩⟩
          · rw [List.length_map, List.length_take]
            exact small1000 (by omega)
          · rw [upd_ne (ne_of_none ho nD)]
            exact s3 _ _ (s2 _ _ ho)
          · rw [upd_same, List.take_add_one, gd, List.map_append]
            rfl
        · rintro H2 ⟨s2, e2⟩
          rw [lus, List.take_length] at e2
          have ej : Txt.join "," ((d1 :: rest).map fun e => tS (tx e)) = tS (tx d1 ++ txM rest) := by
            rw [List.map_cons, join_comma]
            have : ∀ l : List PyData, (l.map fun e => tS (tx e)).flatMap (fun p => 44 :: p.cps.toList) = txM l := by
              intro l
              induction l with
              | nil => rfl
              | cons a l ih =>
                rw [List.map_cons, List.flatMap_cons, ih, txM]
                show 44 :: (tS (tx a)).cps.toList ++ _ = _
                rw [show (tS (tx a)).cps.toList = tx a from List.toList_toArray ..]
                rfl
            rw [this, show (tS (tx d1)).cps.toList = tx d1 from List.toList_toArray ..]
          have fin := q H2 (s1.trans s2)
          have et : tS (tx (.tuple (.str nm :: d1 :: rest))) = nm ++ "(" ++ tS (tx d1 ++ txM rest) ++ ")" := by
            rw [← tS_list (nm ++ "(" ++ tS (tx d1 ++ txM rest) ++ ")"), str_app, str_app, str_app, show (tS (tx d1 ++ txM rest)).cps.toList = tx d1 ++ txM rest from List.toList_toArray ..]
            congr 1
            show nm.cps.toList ++ 40 :: (tx d1 ++ (txM rest ++ [41])) = nm.cps.toList ++ [40] ++ (tx d1 ++ txM rest) ++ [41]
            simp
          rw [et] at fin
          have sm := txM_sum (d1 :: rest)
          have eM : (tx d1 ++ txM rest).length + 1 = (txM (d1 :: rest)).length := by
            rw [txM, List.length_cons]
          have lj : (nm ++ "(").length = nm.length + 1 := by
            show (nm ++ "(").cps.size = _
            rw [← Array.length_toList, str_app, List.length_append, Array.length_toList]
            rfl
          refine ⟨",", D, (d1 :: rest).map fun e => tS (tx e), rfl, rfl, .inl (.inl (.inl (by rw [e2, List.map_map]; rfl))), ?_, ?_⟩
          · rw [List.length_map]
            show _ + (d1 :: rest).length * 1 ≤ _
            rw [Nat.mul_one]
            omega
          rw [ej]
          have lt : (tS (tx d1 ++ txM rest)).length = (tx d1 ++ txM rest).length := tS_len _
          have l2 : (nm ++ "(" ++ tS (tx d1 ++ txM rest)).length = nm.length + 1 + (tx d1 ++ txM rest).length := by
            show (nm ++ "(" ++ tS (tx d1 ++ txM rest)).cps.size = _
            rw [← Array.length_toList, str_app, List.length_append, Array.length_toList, ← lj, ← lt, Array.length_toList]
            rfl
          refine ⟨_, _, rfl, rfl, ?_, _, _, rfl, rfl, ?_, fin⟩
          · rw [lj, lt]
            exact Nat.le_trans (show nm.length + 1 + (tx d1 ++ txM rest).length ≤ 1000020 by omega) (by decide)
          · rw [l2]
            exact Nat.le_trans (show nm.length + 1 + (tx d1 ++ txM rest).length + 1 ≤ 1000020 by omega) (by decide)
end
end K04
/-! Chains and doubled terms. -/
namespace K04
open PySem PySem.Spec PyProof.Rows L2 Kx
def chainD : Nat → PyData
  | 0 => .tuple [.str "a"]
  | n + 1 => .tuple [.str "g", chainD n]
def dblD : Nat → PyData
  | 0 => .tuple [.str "a"]
  | n + 1 => .tuple [.str "f", dblD n, dblD n]
section
variable {P : Program} {w : World} {K : PySem.W.Frag} {mg : Str → Option Value} {base : Heap}
def spGrown (K : PySem.W.Frag) (D : Nat → PyData) : Sp := fun vs H Q _ => ∃ (t : Int) (n : Nat), vs = [.int t] ∧ t = n + 1 ∧ n ≤ 1000 ∧ ∀ x H', Same H H' → Dx K H' x (D n) → Q x H'
theorem ok_chain (T : Tx K mg) : FnOk P w K mg base CX0 1 T.a_law_chain T.d_law_chain ["total"] (spGrown K chainD) := by
  have nd := sc__law_chain.nd
  refine T.f_law_chain.ok sc__law_chain (fun vs H Q E h => ?_) (fun cdv A outer s H vs Q E hr h => ?_)
  · obtain ⟨t, n, rfl, _⟩ := h
    rfl
  · obtain ⟨t, n, rfl, ht, hn, q⟩ := h
    refine ⟨_, (pss_cons (ps_set (i := 1) nd rfl (.inl rfl) (pe_tup (pa_cons pe_str pa_nil)))
      (pss_cons (ps_for PassesOwn.never rfl (pi_range1 (by rfl) T.b_range (pa_cons (pe_op op_sub (pv 0) pe_int) pa_nil)) (pg_name (i := 2) nd rfl (.inl rfl)) (pss_one (ps_set (i := 1) nd rfl (.inl rfl) (pe_tup (pa_cons pe_str (pa_cons (pv 1) pa_nil))))))
      (pss_one (ps_ret (pv 1))))), ?_⟩
    refine ⟨(by show 1 ≤ sizeLine; decide), fun p np => ⟨_, rfl, _, _, rfl, rfl, t - 1, rfl, by omega, by omega, ?_⟩⟩
    have sp := same_put (o := .tup [.str "a"]) np
    rw [show (t - 1).toNat = n by omega]
    refine for_range (fun i σ H' => Same H H' ∧ ∃ (x : V) (y : Option V), σ = [some (.int t), some x, y] ∧ Dx K H' x (chainD i)) ⟨sp, _, none, rfl, .tup upd_same (.cons (.str _) .nil)⟩ ?_ ?_
    · rintro i σ H1 hi ⟨s1, x, y, rfl, dx⟩
      refine ⟨_, rfl, (by show 2 ≤ sizeLine; decide), fun r nr => ?_⟩
      have sr := same_put (o := .tup [.str "g", x]) nr
      exact ⟨s1.trans sr, _, _, rfl, .tup upd_same (.cons (.str _) (.cons (dx.up sr) .nil))⟩
    · rintro σ H1 ⟨s1, x, y, rfl, dx⟩
      exact ⟨_, rfl, q x H1 s1 dx⟩
theorem ok_dbl (T : Tx K mg) : FnOk P w K mg base CX0 1 T.a_law_doubled T.d_law_doubled ["total"] (spGrown K dblD) := by
  have nd := sc__law_doubled.nd
  refine T.f_law_doubled.ok sc__law_doubled (fun vs H Q E h => ?_) (fun cdv A outer s H vs Q E hr h => ?_)
  · obtain ⟨t, n, rfl, _⟩ := h
    rfl
  · obtain ⟨t, n, rfl, ht, hn, q⟩ := h
    refine ⟨_, (pss_cons (ps_set (i := 1) nd rfl (.inl rfl) (pe_tup (pa_cons pe_str pa_nil)))
      (pss_cons (ps_for PassesOwn.never rfl (pi_range1 (by rfl) T.b_range (pa_cons (pe_op op_sub (pv 0) pe_int) pa_nil)) (pg_name (i := 2) nd rfl (.inl rfl)) (pss_one (ps_set (i := 1) nd rfl (.inl rfl) (pe_tup (pa_cons pe_str (pa_cons (pv 1) (pa_cons (pv 1) pa_nil)))))))
      (pss_one (ps_ret (pv 1))))), ?_⟩
    refine ⟨(by show 1 ≤ sizeLine; decide), fun p np => ⟨_, rfl, _, _, rfl, rfl, t - 1, rfl, by omega, by omega, ?_⟩⟩
    have sp := same_put (o := .tup [.str "a"]) np
    rw [show (t - 1).toNat = n by omega]
    refine for_range (fun i σ H' => Same H H' ∧ ∃ (x : V) (y : Option V), σ = [some (.int t), some x, y] ∧ Dx K H' x (dblD i)) ⟨sp, _, none, rfl, .tup upd_same (.cons (.str _) .nil)⟩ ?_ ?_
    · rintro i σ H1 hi ⟨s1, x, y, rfl, dx⟩
      refine ⟨_, rfl, _, rfl, (by show 3 ≤ sizeLine; decide), fun r nr => ?_⟩
      have sr := same_put (o := .tup [.str "f", x, x]) nr
      exact ⟨s1.trans sr, _, _, rfl, .tup upd_same (.cons (.str _) (.cons (dx.up sr) (.cons (dx.up sr) .nil)))⟩
    · rintro σ H1 ⟨s1, x, y, rfl, dx⟩
      exact ⟨_, rfl, q x H1 s1 dx⟩
end
end K04
/-! The stack machine of parsed. -/
namespace K04
open PySem PySem.Spec PyProof.Rows L2 Kx
/-- heads and rows, the last first; the last word -/
structure PM where
  hs : List Str
  rs : List (List PyData)
  last : Str
def ended (x : Str) : Bool := !(decide (x = "(") || decide (x = ","))
def pstep (m : PM) (w : Str) : Option PM :=
  if Txt.isalpha w = true then
    if ended m.last = true then none else match m.rs with
      | r :: rs => some ⟨m.hs, (r ++ [.tuple [.str w]]) :: rs, w⟩
      | [] => none
  else if w = "(" then
    if Txt.isalpha m.last = true then match m.rs with
      | r :: rs => some ⟨m.last :: m.hs, [] :: r.dropLast :: rs, w⟩
      | [] => none
    else none
  else if ended m.last = true then match m.hs with
    | [] => none
    | h :: hs => if w = ")" then match m.rs with
        | r :: r2 :: rs => some ⟨hs, (r2 ++ [.tuple (.str h :: r)]) :: rs, w⟩
        | _ => none
      else some ⟨m.hs, m.rs, w⟩
  else none
def prun : List Str → PM → Option PM
  | [], m => some m
  | w :: ws, m => (pstep m w).bind (prun ws)
def pout (m : PM) : Option PyData := if ended m.last = true ∧ m.hs = [] then (m.rs.head?).bind List.head? else none
def pm0 : PM := ⟨[], [[]], "("⟩
def parseD (ws : List Str) : Option PyData := (prun ws pm0).bind pout
theorem prun_snoc : ∀ (ws : List Str) (w : Str) (m : PM), prun (ws ++ [w]) m = (prun ws m).bind fun m' => pstep m' w
  | [], w, m => by
    show (pstep m w).bind (prun []) = (some m).bind fun m' => pstep m' w
    show _ = pstep m w
    cases pstep m w <;> rfl
  | a :: ws, w, m => by
    show (pstep m a).bind (prun (ws ++ [w])) = ((pstep m a).bind (prun ws)).bind _
    cases pstep m a with
    | none => rfl
    | some m2 => exact prun_snoc ws w m2
theorem prun_none : ∀ (ws vs : List Str) (m : PM), prun ws m = none → prun (ws ++ vs) m = none
  | [], vs, m, h => by cases h
  | a :: ws, vs, m, h => by
    have h : (pstep m a).bind (prun ws) = none := h
    show (pstep m a).bind (prun (ws ++ vs)) = none
    cases e : pstep m a with
    | none => rfl
    | some m2 =>
      rw [e] at h
      exact prun_none ws vs m2 h
/-- what every state has -/
structure PWf (m : PM) : Prop where
  len : m.rs.length = m.hs.length + 1
  top : ended m.last = true → ∃ r rs, m.rs = r :: rs ∧ r ≠ []
  pure : ∀ r, r ∈ m.rs → pureAll r = true
theorem pure_snoc {r : List PyData} {d : PyData} (h : pureAll r = true) (hd : pureD d = true) : pureAll (r ++ [d]) = true := by
  induction r with
  | nil => simp [pureAll, hd]
  | cons e r ih =>
    rw [pureAll, Bool.and_eq_true] at h
    rw [List.cons_append, pureAll, h.1, ih h.2]
    rfl
theorem pure_drop : ∀ {r : List PyData}, pureAll r = true → pureAll r.dropLast = true
  | [], _ => rfl
  | [d], _ => rfl
  | d :: e :: r, h => by
    rw [pureAll, Bool.and_eq_true] at h
    show pureAll (d :: (e :: r).dropLast) = true
    rw [pureAll, h.1, pure_drop h.2]
    rfl
theorem pwf_step {m m' : PM} {w : Str} (h : PWf m) (e : pstep m w = some m') : PWf m' := by
  obtain ⟨l, t, p⟩ := h
  unfold pstep at e
  split at e
  · split at e
    · cases e
    · split at e
      · rename_i r rs er
        cases e
        rw [er] at l p
        refine ⟨by simpa using l, fun _ => ⟨_, _, rfl, by simp⟩, fun x hx => ?_⟩
        rcases List.mem_cons.mp hx with rfl | hx
        · exact pure_snoc (p r (List.mem_cons_self)) rfl
        · exact p x (List.mem_cons_of_mem _ hx)
      · cases e
  · split at e
    · rename_i hw
      split at e
      · split at e
        · rename_i r rs er
          cases e
          rw [er] at l p
          refine ⟨by simp at l ⊢; exact l, fun z => ?_, fun x hx => ?_⟩
          · rw [hw] at z
            have : ended "(" = true := z
            exact absurd this (by decide)
          · rcases List.mem_cons.mp hx with rfl | hx
            · rfl
            · rcases List.mem_cons.mp hx with rfl | hx
              · exact pure_drop (p r (List.mem_cons_self))
              · exact p x (List.mem_cons_of_mem _ hx)
        · cases e
      · cases e
    · split at e
      · rename_i he
        split at e
        · cases e
        · rename_i hd hs eh
          split at e
          · split at e
            · rename_i r r2 rs er
              cases e
              rw [er, eh] at l
              rw [er] at p
              refine ⟨by simp at l ⊢; omega, fun _ => ⟨_, _, rfl, by simp⟩, fun x hx => ?_⟩
              rcases List.mem_cons.mp hx with rfl | hx
              · refine pure_snoc (p r2 (List.mem_cons_of_mem _ List.mem_cons_self)) ?_
                show pureAll (.str hd :: r) = true
                rw [pureAll, p r List.mem_cons_self]
                rfl
              · exact p x (List.mem_cons_of_mem _ (List.mem_cons_of_mem _ hx))
            · cases e
          · cases e
            exact ⟨l, fun _ => t he, p⟩
      · cases e
theorem pwf0 : PWf pm0 := ⟨rfl, fun z => absurd z (by decide), fun r hr => by
  rw [List.mem_singleton.mp hr]
  rfl⟩
end K04
/-! parsed. -/
namespace K04
open PySem PySem.Spec PyProof.Rows L2 Kx
theorem at_last {α : Type} (l : List α) (x : α) : atI (l ++ [x]) (-1) = some x := by
  unfold atI ixN
  have h1 : ¬ (0 : Int) ≤ -1 := by decide
  rw [if_neg h1]
  have h2 : -((l ++ [x]).length : Int) ≤ -1 := by
    rw [List.length_append, List.length_singleton]
    omega
  rw [if_pos h2]
  have h3 : (-1 + ((l ++ [x]).length : Int)).toNat = l.length := by
    rw [List.length_append, List.length_singleton]
    omega
  show (l ++ [x])[(-1 + ((l ++ [x]).length : Int)).toNat]? = some x
  rw [h3]
  simp
theorem in_two (x : Str) : (!inV (.str x) [.str "(", .str ","]) = ended x := by
  unfold ended
  congr 1
  show (((("(" : Str)) == x) || ((("," : Str) == x) || false)) = _
  rw [Bool.or_false, Bool.eq_iff_iff]
  simp only [Bool.or_eq_true, beq_iff_eq, decide_eq_true_eq]
  exact ⟨fun h => h.imp Eq.symm Eq.symm, fun h => h.imp Eq.symm Eq.symm⟩
/-- the rows at their lists -/
def RowsOk (K : PySem.W.Frag) (H : Hp) : List Addr → List (List PyData) → Prop
  | [], [] => True
  | a :: as, r :: rs => (∃ us, H a = some (.lst us) ∧ DxAll K H us r) ∧ RowsOk K H as rs
  | _, _ => False
theorem RowsOk.len {K : PySem.W.Frag} {H : Hp} : ∀ {as : List Addr} {rs : List (List PyData)}, RowsOk K H as rs → as.length = rs.length
  | [], [], _ => rfl
  | _ :: _, _ :: _, h => congrArg Nat.succ (RowsOk.len h.2)
  | [], _ :: _, h => h.elim
  | _ :: _, [], h => h.elim
theorem RowsOk.up {K : PySem.W.Frag} {H H' : Hp} (e : Same H H') : ∀ {as : List Addr} {rs : List (List PyData)}, RowsOk K H as rs → RowsOk K H' as rs
  | [], [], _ => trivial
  | _ :: _, _ :: _, ⟨⟨us, h1, h2⟩, h3⟩ => ⟨⟨us, e _ _ h1, h2.up e⟩, RowsOk.up e h3⟩
  | [], _ :: _, h => h.elim
  | _ :: _, [], h => h.elim
/-- another list changes -/
theorem RowsOk.off {K : PySem.W.Frag} {H : Hp} {D : Addr} {xs ys : List V} (e : H D = some (.lst xs)) : ∀ {as : List Addr} {rs : List (List PyData)}, (∀ r, r ∈ rs → pureAll r = true) → D ∉ as → RowsOk K H as rs → RowsOk K (upd H D (.lst ys)) as rs
  | [], [], _, _, _ => trivial
  | a :: as, r :: rs, p, n, ⟨⟨us, h1, h2⟩, h3⟩ => by
    rw [List.mem_cons, not_or] at n
    exact ⟨⟨us, by rw [upd_ne (Ne.symm n.1)]; exact h1, DxAll.ts (Tups.lst e) r us (p r List.mem_cons_self) h2⟩, RowsOk.off e (fun r hr => p r (List.mem_cons_of_mem _ hr)) n.2 h3⟩
  | [], _ :: _, _, _, h => h.elim
  | _ :: _, [], _, _, h => h.elim
theorem RowsOk.at {K : PySem.W.Frag} {H : Hp} : ∀ {as : List Addr} {rs : List (List PyData)} {a : Addr}, RowsOk K H as rs → a ∈ as → ∃ us, H a = some (.lst us)
  | a0 :: as, r :: rs, a, ⟨⟨us, h1, _⟩, h3⟩, h => by
    rcases List.mem_cons.mp h with rfl | h
    · exact ⟨us, h1⟩
    · exact RowsOk.at h3 h
  | [], _, _, _, h => nomatch h
  | _ :: _, [], _, h, _ => h.elim
theorem alpha_ended {x : Str} (h : Txt.isalpha x = true) : ended x = true := by
  unfold ended
  rw [Bool.not_eq_true', Bool.or_eq_false_iff, decide_eq_false_iff_not, decide_eq_false_iff_not]
  refine ⟨fun e => ?_, fun e => ?_⟩
  · rw [e] at h
    exact absurd h (by decide +kernel)
  · rw [e] at h
    exact absurd h (by decide +kernel)
theorem dx_drop {K : PySem.W.Frag} {H : Hp} : ∀ {us : List V} {ds : List PyData}, DxAll K H us ds → DxAll K H us.dropLast ds.dropLast
  | _, _, .nil => .nil
  | _, _, .cons _ .nil => .nil
  | _, _, .cons a (.cons b t) => .cons a (dx_drop (.cons b t))
section
variable {P : Program} {w : World} {K : PySem.W.Frag} {mg : Str → Option Value} {base : Heap}
def spParsed (K : PySem.W.Frag) : Sp := fun vs H Q _ => ∃ (a : Addr) (xs : List Str), vs = [.ref a] ∧ H a = some (.lst (xs.map V.str)) ∧ xs.length ≤ 5000 ∧ (parseD xs = none → ∀ H', Same H H' → Q .non H') ∧
  ∀ d, parseD xs = some d → ∀ x H', Same H H' → Dx K H' x d → Q x H'
/-- what stands between two words -/
structure Mid (K : PySem.W.Frag) (H H2 : Hp) (hl rl : Addr) (as : List Addr) (hs : List Str) (rs : List (List PyData)) : Prop where
  same : Same H H2
  hn : H hl = none
  rn : H rl = none
  ne : hl ≠ rl
  eh : H2 hl = some (.lst (hs.reverse.map V.str))
  er : H2 rl = some (.lst (as.reverse.map V.ref))
  rows : RowsOk K H2 as rs
  nd : as.Nodup
  offh : hl ∉ as
  offr : rl ∉ as
  new : ∀ a, a ∈ as → H a = none
  pure : ∀ r, r ∈ rs → pureAll r = true
section
variable {H H2 H3 : Hp} {hl rl : Addr} {as : List Addr} {hs : List Str} {rs : List (List PyData)}
theorem Mid.up (m : Mid K H H2 hl rl as hs rs) (e : Same H2 H3) : Mid K H H3 hl rl as hs rs :=
  { m with same := m.same.trans e, eh := e _ _ m.eh, er := e _ _ m.er, rows := m.rows.up e }
/-- the heads change -/
theorem Mid.heads (m : Mid K H H2 hl rl as hs rs) (hs' : List Str) : Mid K H (upd H2 hl (.lst (hs'.reverse.map V.str))) hl rl as hs' rs :=
  { m with
    same := fun c o hc => by
      rw [upd_ne (ne_of_none hc m.hn)]
      exact m.same c o hc
    eh := upd_same
    er := by
      rw [upd_ne m.ne.symm]
      exact m.er
    rows := m.rows.off m.eh m.pure m.offh }
/-- the last row changes -/
theorem Mid.top {a : Addr} {r r' : List PyData} {us us' : List V} (m : Mid K H H2 hl rl (a :: as) hs (r :: rs)) (e : H2 a = some (.lst us)) (d : DxAll K (upd H2 a (.lst us')) us' r') (p : pureAll r' = true) : Mid K H (upd H2 a (.lst us')) hl rl (a :: as) hs (r' :: rs) :=
  { m with
    same := fun c o hc => by
      rw [upd_ne (ne_of_none hc (m.new a List.mem_cons_self))]
      exact m.same c o hc
    eh := by
      rw [upd_ne (fun z => m.offh (by rw [z]; exact List.mem_cons_self))]
      exact m.eh
    er := by
      rw [upd_ne (fun z => m.offr (by rw [z]; exact List.mem_cons_self))]
      exact m.er
    rows := ⟨⟨us', upd_same, d⟩, RowsOk.off e (fun r hr => m.pure r (List.mem_cons_of_mem _ hr)) (List.nodup_cons.mp m.nd).1 m.rows.2⟩
    pure := fun x hx => by
      rcases List.mem_cons.mp hx with rfl | hx
      · exact p
      · exact m.pure x (List.mem_cons_of_mem _ hx) }
/-- a row more -/
theorem Mid.more {q : Addr} (m : Mid K H H2 hl rl as hs rs) (nq : H2 q = none) : Mid K H (upd (upd H2 q (.lst [])) rl (.lst ((q :: as).reverse.map V.ref))) hl rl (q :: as) hs ([] :: rs) := by
  have m1 := m.up (same_put (o := .lst []) nq)
  have qr : q ≠ rl := (ne_of_none m.er nq).symm
  have qh : hl ≠ q := ne_of_none m.eh nq
  have qa : q ∉ as := fun z => by
    obtain ⟨us, e⟩ := m.rows.at z
    rw [e] at nq
    cases nq
  refine ⟨fun c o hc => ?_, m.hn, m.rn, m.ne, ?_, upd_same, ⟨⟨[], ?_, .nil⟩, m1.rows.off m1.er m.pure m.offr⟩, List.nodup_cons.mpr ⟨qa, m.nd⟩, ?_, ?_, fun a ha => ?_, fun r hr => ?_⟩
  · rw [upd_ne (ne_of_none hc m.rn)]
    exact m1.same c o hc
  · rw [upd_ne m.ne]
    exact m1.eh
  · rw [upd_ne qr, upd_same]
  · rw [List.mem_cons, not_or]
    exact ⟨qh, m.offh⟩
  · rw [List.mem_cons, not_or]
    exact ⟨qr.symm, m.offr⟩
  · rcases List.mem_cons.mp ha with rfl | ha
    · cases e : H a with
      | none => rfl
      | some o =>
        rw [m.same _ _ e] at nq
        cases nq
    · exact m.new a ha
  · rcases List.mem_cons.mp hr with rfl | hr
    · rfl
    · exact m.pure r hr
/-- the last row goes -/
theorem Mid.less {a : Addr} {r : List PyData} (m : Mid K H H2 hl rl (a :: as) hs (r :: rs)) : Mid K H (upd H2 rl (.lst (as.reverse.map V.ref))) hl rl as hs rs :=
  { m with
    same := fun c o hc => by
      rw [upd_ne (ne_of_none hc m.rn)]
      exact m.same c o hc
    eh := by
      rw [upd_ne m.ne]
      exact m.eh
    er := upd_same
    rows := RowsOk.off m.er (fun r hr => m.pure r (List.mem_cons_of_mem _ hr)) (fun z => m.offr (List.mem_cons_of_mem _ z)) m.rows.2
    nd := (List.nodup_cons.mp m.nd).2
    offh := fun z => m.offh (List.mem_cons_of_mem _ z)
    offr := fun z => m.offr (List.mem_cons_of_mem _ z)
    new := fun a ha => m.new a (List.mem_cons_of_mem _ ha)
    pure := fun r hr => m.pure r (List.mem_cons_of_mem _ hr) }
end
theorem pstep_last {m m' : PM} {x : Str} (e : pstep m x = some m') : m'.last = x := by
  unfold pstep at e
  split at e
  · split at e
    · cases e
    · split at e
      · cases e
        rfl
      · cases e
  · split at e
    · split at e
      · split at e
        · cases e
          rfl
        · cases e
      · cases e
    · split at e
      · split at e
        · cases e
        · split at e
          · split at e
            · cases e
              rfl
            · cases e
          · cases e
            rfl
      · cases e
theorem ok_parsed (T : Tx K mg) : FnOk P w K mg base CX0 1 T.aparsed T.dparsed ["words"] (spParsed K) := by
  have nd := sc_parsed.nd
  refine T.fparsed.ok sc_parsed (fun vs H Q E h => ?_) (fun cdv A outer s H vs Q E hr h => ?_)
  · obtain ⟨a, xs, rfl, _⟩ := h
    rfl
  · obtain ⟨a, xs, rfl, ha, lx, q0, q1⟩ := h
    refine ⟨_, (pss_cons (ps_set (i := 1) nd rfl (.inl rfl) (pe_lst pa_nil))
      (pss_cons (ps_set (i := 2) nd rfl (.inl rfl) (pe_lst (pa_cons (pe_lst pa_nil) pa_nil)))
      (pss_cons (ps_set (i := 3) nd rfl (.inl rfl) pe_str)
      (pss_cons (ps_for PassesOwn.never rfl (pi_list (pv 0)) (pg_name (i := 4) nd rfl (.inl rfl)) (pss_cons (ps_set (i := 5) nd rfl (.inl rfl) (pe_cmpR op_notIn_seq (pv 3) (pe_tup (pa_cons pe_str (pa_cons pe_str pa_nil))) (by rfl)))
      (C8.pss_cut (ps_if (pt_val (pe_bm0 PySem.F.plainAttrs_str PySem.F.slot_str_isalpha PySem.F.type_str_isalpha mt_isalpha (pv 4))) (pss_cons (ps_if (pt_truth (pv 5) (by intro _; rfl)) (pss_one (ps_ret pe_non)) pss_nil)
      (pss_one (ps_expr (pe_bm PySem.F.plainAttrs_list PySem.F.slot_list_append PySem.F.type_list_append mt_append (pe_ix ix_list (pv 2) (pe_un un_neg pe_int) (fun _ _ => rfl)) (pa_cons (pe_tup (pa_cons (pv 4) pa_nil)) pa_nil))))) (pss_one (ps_if (pt_cmpR op_eq (pv 4) pe_str (nomark _)) (pss_cons (ps_if (pt_not (pt_val (pe_bm0 PySem.F.plainAttrs_str PySem.F.slot_str_isalpha PySem.F.type_str_isalpha mt_isalpha (pv 3)))) (pss_one (ps_ret pe_non)) pss_nil)
      (pss_cons (ps_expr (pe_bm0 PySem.F.plainAttrs_list PySem.F.slot_list_pop PySem.F.type_list_pop mt_pop (pe_ix ix_list (pv 2) (pe_un un_neg pe_int) (fun _ _ => rfl))))
      (pss_cons (ps_expr (pe_bm PySem.F.plainAttrs_list PySem.F.slot_list_append PySem.F.type_list_append mt_append (pv 1) (pa_cons (pv 3) pa_nil)))
      (pss_one (ps_expr (pe_bm PySem.F.plainAttrs_list PySem.F.slot_list_append PySem.F.type_list_append mt_append (pv 2) (pa_cons (pe_lst pa_nil) pa_nil))))))) (pss_one (ps_if (PW.pt (pw_or (pt_not (pt_truth (pv 5) (by intro _; rfl))) (pw_or1 (pt_not (pt_truth (pv 1) (by intro _; rfl)))))) (pss_one (ps_ret pe_non)) (pss_one (ps_if (pt_cmpR op_eq (pv 4) pe_str (nomark _)) (pss_cons (ps_set (i := 6) nd rfl (.inl rfl) (pe_bm0 PySem.F.plainAttrs_list PySem.F.slot_list_pop PySem.F.type_list_pop mt_pop (pv 2)))
      (pss_one (ps_expr (pe_bm PySem.F.plainAttrs_list PySem.F.slot_list_append PySem.F.type_list_append mt_append (pe_ix ix_list (pv 2) (pe_un un_neg pe_int) (fun _ _ => rfl)) (pa_cons (pe_tup (pa_cons (pe_bm0 PySem.F.plainAttrs_list PySem.F.slot_list_pop PySem.F.type_list_pop mt_pop (pv 1)) (StX.pa_star (pv 6) pa_nil))) pa_nil))))) pss_nil)))))))
      (pss_one (ps_set (i := 3) nd rfl (.inl rfl) (pv 4))))))
      (pss_one (ps_ret (pe_ifExp (PW.pt (pw_and (pt_cmpR op_notIn_seq (pv 3) (pe_tup (pa_cons pe_str (pa_cons pe_str pa_nil))) (by rfl)) (pw_and1 (pt_not (pt_truth (pv 1) (by intro _; rfl)))))) (pe_ix ix_list (pe_ix ix_list (pv 2) pe_int (fun _ _ => rfl)) pe_int (fun _ _ => rfl)) pe_non))))))), ?_⟩
    refine ⟨Nat.zero_le _, fun hl nhl => ⟨Nat.zero_le _, fun r0 nr0 => ⟨(by show 1 ≤ sizeLine; decide), fun rl nrl => ?_⟩⟩⟩
    have big : ∀ {n : Nat}, n ≤ 200000 → n < sizeLine := fun h => Nat.lt_of_le_of_lt h (by decide)
    have s1 := same_put (o := .lst []) nhl
    have s2 := same_put (o := .lst []) nr0
    have s3 := same_put (o := .lst [.ref r0]) nrl
    have free : ∀ {G : Hp} {b : Addr}, Same H G → G b = none → H b = none := fun sG e => by
      cases z : H _ with
      | none => rfl
      | some o =>
        rw [sG _ _ z] at e
        cases e
    have start : Mid K H (upd (upd (upd H hl (.lst [])) r0 (.lst [])) rl (.lst [.ref r0])) hl rl [r0] [] [[]] :=
      { same := s1.trans (s2.trans s3)
        hn := nhl
        rn := free (s1.trans s2) nrl
        ne := ne_of_none (s2 _ _ upd_same) nrl
        eh := s3 _ _ (s2 _ _ upd_same)
        er := upd_same
        rows := ⟨⟨[], s3 _ _ upd_same, .nil⟩, trivial⟩
        nd := List.nodup_cons.mpr ⟨fun z => (nomatch z), List.nodup_nil⟩
        offh := fun z => ne_of_none upd_same nr0 (List.mem_singleton.mp z)
        offr := fun z => (ne_of_none upd_same nrl) (List.mem_singleton.mp z).symm
        new := fun a ha => by
          rw [List.mem_singleton.mp ha]
          exact free s1 nr0
        pure := fun r hr => by
          rw [List.mem_singleton.mp hr]
          rfl }
    have sqa : ∀ {G : Hp}, Same H G → SqL K G a (xs.map V.str) := fun sG => .inl (.inl (sG _ _ ha))
    refine ⟨_, rfl, a, rfl, ⟨_, sqa start.same⟩, for_list (K := K) (a := a) (xs := xs.map V.str) (fun i σ H2 => ∃ y4 y5 y6 as hs rs last, σ = [some (.ref a), some (.ref hl), some (.ref rl), some (.str last), y4, y5, y6] ∧ Mid K H H2 hl rl as hs rs ∧ PWf ⟨hs, rs, last⟩ ∧ prun (xs.take i) pm0 = some ⟨hs, rs, last⟩ ∧ hs.length ≤ i ∧ ∀ r, r ∈ rs → r.length ≤ i)
      ⟨none, none, none, [r0], [], [[]], "(", rfl, start, pwf0, rfl, Nat.le_refl _, fun r hr => by rw [List.mem_singleton.mp hr]; exact Nat.le_refl _⟩ (fun i σ H2 _ h => by obtain ⟨_, _, _, _, _, _, _, _, m, _⟩ := h; exact sqa m.same) ?_ ?_⟩
    · rintro i y σ H2 hi ⟨y4, y5, y6, as, hs, rs, last, rfl, md, wf, run, fh, fr⟩
      rw [List.getElem?_map] at hi
      obtain ⟨x, hx, rfl⟩ := Option.map_eq_some_iff.mp hi
      have lti : i < xs.length := (List.getElem?_eq_some_iff.mp hx).1
      have run1 : prun (xs.take (i + 1)) pm0 = pstep ⟨hs, rs, last⟩ x := by
        rw [List.take_add_one, hx]
        show prun (xs.take i ++ [x]) pm0 = _
        rw [prun_snoc, run]
        rfl
      have bad : pstep ⟨hs, rs, last⟩ x = none → ∀ H', Same H H' → Q .non H' := fun e => by
        refine q0 ?_
        have := prun_none (xs.take (i + 1)) (xs.drop (i + 1)) pm0 (by rw [run1, e])
        rw [List.take_append_drop] at this
        unfold parseD
        rw [this]
        rfl
      -- ended
      refine ⟨_, rfl, (by show 2 ≤ sizeLine; decide), fun p np => ⟨p, _, rfl, .inr (SqT.of upd_same), rfl, rfl, ?_⟩⟩
      have md := md.up (same_put (o := .tup [.str "(", .str ","]) np)
      generalize upd H2 p (.tup [.str "(", .str ","]) = H3 at md ⊢
      show tSeq _ _ _ _ _
      rw [show (if true = true then !inV (.str last) [.str "(", .str ","] else inV (.str last) [.str "(", .str ","]) = ended last from in_two last]
      refine ⟨fun σ' H' => ∃ as' m' y6', σ' = [some (.ref a), some (.ref hl), some (.ref rl), some (.str last), some (.str x), some (.bl (ended last)), y6'] ∧ Mid K H H' hl rl as' m'.hs m'.rs ∧ pstep ⟨hs, rs, last⟩ x = some m' ∧ m'.hs.length ≤ i + 1 ∧ ∀ r, r ∈ m'.rs → r.length ≤ i + 1, ?_, ?_⟩
      · obtain ⟨r, rs', ers⟩ : ∃ r rs', rs = r :: rs' := by
          have := wf.len
          cases rs with
          | nil => simp at this
          | cons r rs' => exact ⟨r, rs', rfl⟩
        subst ers
        obtain ⟨a1, as', eas⟩ : ∃ a1 as', as = a1 :: as' := by
          have := md.rows.len
          cases as with
          | nil => simp at this
          | cons a1 as' => exact ⟨a1, as', rfl⟩
        subst eas
        obtain ⟨⟨us, ea1, dr⟩, _⟩ := id md.rows
        have lus := dr.length
        have fr0 := fr r List.mem_cons_self
        have eras : (a1 :: as').reverse.map V.ref = as'.reverse.map V.ref ++ [V.ref a1] := by simp
        have atl : atI ((a1 :: as').reverse.map V.ref) (-1) = some (.ref a1) := by
          rw [eras]
          exact at_last _ _
        have las : as'.length ≤ 5001 := by
          have h1 := md.rows.len
          have h2 := wf.len
          simp only [List.length_cons] at h1 h2
          have h3 : rs'.length = hs.length := by
            have : (⟨hs, r :: rs', last⟩ : PM).rs.length = hs.length + 1 := wf.len
            simpa using this
          omega
        refine ⟨_, rfl, rfl, x, rfl, rfl, trivial, _, rfl, ite2 (fun al => ?_) (fun al => ?_)⟩
        · -- a word
          refine ⟨_, rfl, _, rfl, ite2 (fun en => ?_) (fun en => ?_)⟩
          · exact bad (by unfold pstep; rw [if_pos al, if_pos en]) _ md.same
          · refine ⟨_, rfl, 1, rfl, rl, _, -1, .ref a1, rfl, rfl, .inl (.inl md.er), atl, .inl ⟨rfl, us, .inl (.inl ea1)⟩, _, rfl, (by show 1 ≤ sizeLine; decide), fun q nq => ?_⟩
            have sq := same_put (o := .tup [.str x]) nq
            have md2 := md.up sq
            have ea2 := sq _ _ ea1
            refine ⟨a1, us, .ref q, rfl, rfl, ea2, big (by omega), a1 :: as', ⟨hs, (r ++ [.tuple [.str x]]) :: rs', x⟩, _, rfl, md2.top ea2 ?_ (pure_snoc (md.pure r List.mem_cons_self) rfl), by unfold pstep; rw [if_pos al, if_neg en], Nat.le_succ_of_le fh, fun z hz => ?_⟩
            · have qa : q ≠ a1 := (ne_of_none ea1 nq).symm
              exact DxAll.append (DxAll.ts (Tups.lst ea2) _ _ (md.pure r List.mem_cons_self) (dr.up sq)) (.cons (.tup (by rw [upd_ne qa, upd_same]) (.cons (.str x) .nil)) .nil)
            · rcases List.mem_cons.mp hz with rfl | hz
              · rw [List.length_append]
                exact Nat.succ_le_succ fr0
              · exact Nat.le_succ_of_le (fr z (List.mem_cons_of_mem _ hz))
        · refine ⟨_, rfl, rfl, _, rfl, ite2 (fun ew => ?_) (fun ew => ?_)⟩
          · -- an opening one
            have ex : x = "(" := V.str.inj (of_decide_eq_true ew)
            refine ⟨_, rfl, rfl, last, rfl, rfl, trivial, _, rfl, ?_⟩
            cases la : Txt.isalpha last with
            | false => exact iteT (bad (by unfold pstep; rw [if_neg al, if_pos ex, if_neg (by rw [la]; decide)]) _ md.same)
            | true =>
              have ne0 : r ≠ [] := by
                obtain ⟨r2, rs2, e, n⟩ := wf.top (alpha_ended la)
                cases e
                exact n
              obtain ⟨us0, y0, eus⟩ : ∃ us0 y0, us = us0 ++ [y0] := by
                rcases snoc_or us with e | e
                · rw [e] at lus
                  exact absurd (List.eq_nil_of_length_eq_zero lus.symm) ne0
                · exact e
              refine iteF ⟨_, rfl, 1, rfl, rl, _, -1, .ref a1, rfl, rfl, .inl (.inl md.er), atl, .inl ⟨rfl, us, .inl (.inl ea1)⟩, a1, us, y0, rfl, rfl, ea1, by rw [eus]; simp, ?_⟩
              have md2 := md.top (us' := us.dropLast) ea1 (dx_drop (DxAll.ts (Tups.lst ea1) _ _ (md.pure r List.mem_cons_self) dr)) (pure_drop (md.pure r List.mem_cons_self))
              generalize upd H3 a1 (.lst us.dropLast) = H4 at md2 ⊢
              refine ⟨_, rfl, .inl ⟨rfl, _, .inl (.inl md2.eh)⟩, _, rfl, hl, _, .str last, rfl, rfl, md2.eh, big (by rw [List.length_map, List.length_reverse]; omega), ?_⟩
              have md3 := md2.heads (last :: hs)
              rw [show (last :: hs).reverse.map V.str = hs.reverse.map V.str ++ [V.str last] by simp] at md3
              generalize upd H4 hl (.lst (hs.reverse.map V.str ++ [V.str last])) = H5 at md3 ⊢
              refine ⟨_, rfl, .inl ⟨rfl, _, .inl (.inl md3.er)⟩, Nat.zero_le _, fun q nq => ?_⟩
              have md4 := md3.more nq
              rw [show (q :: a1 :: as').reverse.map V.ref = (a1 :: as').reverse.map V.ref ++ [V.ref q] by simp] at md4
              refine ⟨rl, _, .ref q, rfl, rfl, same_put nq _ _ md3.er, big (by rw [List.length_map, List.length_reverse, List.length_cons]; omega), q :: a1 :: as', ⟨last :: hs, [] :: r.dropLast :: rs', x⟩, _, rfl, md4, by unfold pstep; rw [if_neg al, if_pos ex, if_pos la], Nat.succ_le_succ fh, fun z hz => ?_⟩
              rcases List.mem_cons.mp hz with rfl | hz
              · exact Nat.zero_le _
              · rcases List.mem_cons.mp hz with rfl | hz
                · rw [List.length_dropLast]
                  omega
                · exact Nat.le_succ_of_le (fr z (List.mem_cons_of_mem _ hz))
          · have ex : x ≠ "(" := fun z => ew (decide_eq_true (by rw [z]))
            refine ⟨_, rfl, _, rfl, ?_⟩
            cases en : ended last with
            | false => exact iteT (bad (by unfold pstep; rw [if_neg al, if_neg ex, if_neg (by rw [en]; decide)]) _ md.same)
            | true =>
              refine iteF ⟨_, rfl, _, .inl ⟨_, .inl (.inl md.eh), rfl⟩, ?_⟩
              cases hs with
              | nil => exact iteT (bad (by unfold pstep; rw [if_neg al, if_neg ex, if_pos en]) _ md.same)
              | cons h hs' =>
                rw [show (!((h :: hs').reverse.map V.str).isEmpty) = true by simp]
                refine iteF ⟨_, rfl, rfl, _, rfl, ite2 (fun ec => ?_) (fun ec => ?_)⟩
                · -- a closing one
                  have ec' : x = ")" := V.str.inj (of_decide_eq_true ec)
                  obtain ⟨r2, rs2, ers⟩ : ∃ r2 rs2, rs' = r2 :: rs2 := by
                    have := wf.len
                    cases rs' with
                    | nil => simp at this
                    | cons r2 rs2 => exact ⟨r2, rs2, rfl⟩
                  subst ers
                  obtain ⟨a2, as2, eas⟩ : ∃ a2 as2, as' = a2 :: as2 := by
                    have := md.rows.len
                    cases as' with
                    | nil => simp at this
                    | cons a2 as2 => exact ⟨a2, as2, rfl⟩
                  subst eas
                  have md2 := md.less
                  have ea1' : (upd H3 rl (.lst ((a2 :: as2).reverse.map V.ref))) a1 = some (.lst us) := by
                    rw [upd_ne (fun z => md.offr (by rw [← z]; exact List.mem_cons_self))]
                    exact ea1
                  have dr' : DxAll K (upd H3 rl (.lst ((a2 :: as2).reverse.map V.ref))) us r := DxAll.ts (Tups.lst md.er) _ _ (md.pure r List.mem_cons_self) dr
                  refine ⟨_, rfl, .inl ⟨rfl, _, .inl (.inl md.er)⟩, rl, _, .ref a1, rfl, rfl, md.er, by rw [eras]; simp, ?_⟩
                  rw [eras, List.dropLast_concat]
                  have off1 : hl ≠ a1 := fun z => md.offh (by rw [z]; exact List.mem_cons_self)
                  have n12 : a1 ≠ a2 := fun z => (List.nodup_cons.mp md.nd).1 (by rw [z]; exact List.mem_cons_self)
                  generalize upd H3 rl (.lst ((a2 :: as2).reverse.map V.ref)) = H4 at md2 ea1' dr' ⊢
                  obtain ⟨⟨us2, ea2, dr2⟩, _⟩ := id md2.rows
                  have lus2 := dr2.length
                  have fr2 := fr r2 (List.mem_cons_of_mem _ List.mem_cons_self)
                  have atl2 : atI ((a2 :: as2).reverse.map V.ref) (-1) = some (.ref a2) := by
                    rw [show (a2 :: as2).reverse.map V.ref = as2.reverse.map V.ref ++ [V.ref a2] by simp]
                    exact at_last _ _
                  have md3 := md2.heads hs'
                  have ea1'' : (upd H4 hl (.lst (hs'.reverse.map V.str))) a1 = some (.lst us) := by
                    rw [upd_ne off1.symm]
                    exact ea1'
                  have ea2'' : (upd H4 hl (.lst (hs'.reverse.map V.str))) a2 = some (.lst us2) := by
                    rw [upd_ne (fun z => md2.offh (by rw [← z]; exact List.mem_cons_self))]
                    exact ea2
                  have dr'' := DxAll.ts (Tups.lst (ys := hs'.reverse.map V.str) md2.eh) _ _ (md.pure r List.mem_cons_self) dr'
                  have dr2'' := DxAll.ts (Tups.lst (ys := hs'.reverse.map V.str) md2.eh) _ _ (md2.pure r2 List.mem_cons_self) dr2
                  have ehh : (h :: hs').reverse.map V.str = hs'.reverse.map V.str ++ [V.str h] := by simp
                  refine ⟨_, rfl, 1, rfl, rl, _, -1, .ref a2, rfl, rfl, .inl (.inl md2.er), atl2, .inl ⟨rfl, us2, .inl (.inl ea2)⟩, _, rfl, .inl ⟨rfl, _, .inl (.inl md2.eh)⟩, hl, _, .str h, rfl, rfl, md2.eh, by rw [ehh]; simp, ?_⟩
                  rw [ehh, List.dropLast_concat]
                  generalize upd H4 hl (.lst (hs'.reverse.map V.str)) = H5 at md3 ea1'' ea2'' dr'' dr2'' ⊢
                  refine ⟨_, rfl, a1, us, rfl, .inr (.inl (.inl ea1'')), Nat.le_of_lt (big (by rw [List.length_cons, List.append_nil]; omega)), fun q nq => ?_⟩
                  rw [List.append_nil]
                  have sq := same_put (o := .tup (.str h :: us)) nq
                  have md4 := md3.up sq
                  have ea4 := sq _ _ ea2''
                  have q2 : q ≠ a2 := (ne_of_none ea2'' nq).symm
                  have pr := md.pure r List.mem_cons_self
                  have pt : pureD (.tuple (.str h :: r)) = true := by
                    show pureAll (.str h :: r) = true
                    rw [pureAll, pr]
                    rfl
                  refine ⟨a2, us2, .ref q, rfl, rfl, ea4, big (by omega), a2 :: as2, ⟨hs', (r2 ++ [.tuple (.str h :: r)]) :: rs2, x⟩, _, rfl, md4.top ea4 ?_ (pure_snoc (md2.pure r2 List.mem_cons_self) pt), ?_, ?_, fun z hz => ?_⟩
                  · exact DxAll.append (DxAll.ts (Tups.lst ea4) _ _ (md2.pure r2 List.mem_cons_self) (dr2''.up sq)) (.cons (.tup (by rw [upd_ne q2, upd_same]) (.cons (.str h) (DxAll.ts (Tups.lst ea4) _ _ pr (dr''.up sq)))) .nil)
                  · unfold pstep
                    rw [if_neg al, if_neg ex, if_pos en]
                    exact if_pos ec'
                  · rw [List.length_cons] at fh
                    show hs'.length ≤ i + 1
                    omega
                  · rcases List.mem_cons.mp hz with rfl | hz
                    · rw [List.length_append]
                      exact Nat.succ_le_succ fr2
                    · exact Nat.le_succ_of_le (fr z (List.mem_cons_of_mem _ (List.mem_cons_of_mem _ hz)))
                · have ec' : x ≠ ")" := fun z => ec (decide_eq_true (by rw [z]))
                  refine ⟨a1 :: as', ⟨h :: hs', r :: rs', x⟩, _, rfl, md, by unfold pstep; rw [if_neg al, if_neg ex, if_pos en]; exact if_neg ec', Nat.le_succ_of_le fh, fun z hz => Nat.le_succ_of_le (fr z hz)⟩
      · rintro σ' H' ⟨as', m', y6', rfl, md', st, fh', fr'⟩
        refine ⟨_, rfl, some (.str x), some (.bl (ended last)), y6', as', m'.hs, m'.rs, m'.last, ?_, md', pwf_step wf st, by rw [run1, st], fh', fr'⟩
        rw [pstep_last st]
        rfl
    · rintro σ H2 ⟨y4, y5, y6, as, hs, rs, last, rfl, md, wf, run, fh, fr⟩
      rw [List.length_map, List.take_length] at run
      refine ⟨_, rfl, (by show 2 ≤ sizeLine; decide), fun p np => ⟨p, _, rfl, .inr (SqT.of upd_same), rfl, rfl, _, rfl, ?_⟩⟩
      have md := md.up (same_put (o := .tup [.str "(", .str ","]) np)
      generalize upd H2 p (.tup [.str "(", .str ","]) = H3 at md ⊢
      rw [show (if true = true then !inV (.str last) [.str "(", .str ","] else inV (.str last) [.str "(", .str ","]) = ended last from in_two last]
      have res : parseD xs = pout ⟨hs, rs, last⟩ := by
        unfold parseD
        rw [run]
        rfl
      cases en : ended last with
      | false =>
        refine iteF (q0 ?_ _ md.same)
        rw [res]
        exact if_neg (fun z => by rw [en] at z; exact absurd z.1 (by decide))
      | true =>
        refine iteT ⟨_, rfl, _, .inl ⟨_, .inl (.inl md.eh), rfl⟩, ?_⟩
        cases hs with
        | cons h hs' =>
          rw [show (!((h :: hs').reverse.map V.str).isEmpty) = true by simp]
          refine iteF (q0 ?_ _ md.same)
          rw [res]
          exact if_neg (fun z => by cases z.2)
        | nil =>
          obtain ⟨r, rs', e, ne0⟩ := wf.top en
          have e : rs = r :: rs' := e
          subst e
          have l1 := wf.len
          have e2 : rs' = [] := List.eq_nil_of_length_eq_zero (by simpa using l1)
          subst e2
          obtain ⟨d, r', er⟩ : ∃ d r', r = d :: r' := by
            cases r with
            | nil => exact absurd rfl ne0
            | cons d r' => exact ⟨d, r', rfl⟩
          subst er
          have ll := md.rows.len
          obtain ⟨a1, ea⟩ : ∃ a1, as = [a1] := by
            match as, ll with
            | [a1], _ => exact ⟨a1, rfl⟩
          subst ea
          obtain ⟨⟨us, e1, dr⟩, _⟩ := id md.rows
          cases dr with
          | @cons v us' _ _ hv _ =>
          refine iteT ⟨_, rfl, rl, _, 0, .ref a1, rfl, rfl, .inl (.inl md.er), atI_nat (j := 0) rfl, a1, _, 0, v, rfl, rfl, .inl (.inl e1), atI_nat (j := 0) rfl, q1 d ?_ v _ md.same hv⟩
          rw [res]
          exact if_pos ⟨en, rfl⟩
end
end K04
/-! What the machine reads: the words of a datum, and nothing else. -/
namespace K04
open PySem PySem.Spec PyProof.Rows L2 Kx
mutual
/-- the words of a datum -/
def tk : PyData → List Str
  | .tuple (d :: ds) => tS (nmC d) :: tkA ds
  | _ => []
def tkA : List PyData → List Str
  | [] => []
  | e :: es => "(" :: (tk e ++ (tkM es ++ [((")" : Str))]))
def tkM : List PyData → List Str
  | [] => []
  | e :: es => "," :: (tk e ++ tkM es)
end
theorem catS_app (a b : List Str) : catS (a ++ b) = catS a ++ catS b := by simp [catS]
theorem catS_cons (a : Str) (b : List Str) : catS (a :: b) = a.cps.toList ++ catS b := by simp [catS]
mutual
theorem cat_tk : ∀ d : PyData, catS (tk d) = tx d
  | .none => rfl
  | .bool _ => rfl
  | .int _ => rfl
  | .str _ => rfl
  | .list _ => rfl
  | .dict _ => rfl
  | .tuple [] => rfl
  | .tuple (d :: ds) => by
    rw [tk, tx, catS_cons, cat_tkA ds]
    rfl
theorem cat_tkA : ∀ ds : List PyData, catS (tkA ds) = txA ds
  | [] => rfl
  | e :: es => by
    rw [tkA, txA, catS_cons, catS_app, catS_app, cat_tk e, cat_tkM es]
    rfl
theorem cat_tkM : ∀ ds : List PyData, catS (tkM ds) = txM ds
  | [] => rfl
  | e :: es => by
    rw [tkM, txM, catS_cons, catS_app, cat_tk e, cat_tkM es]
    rfl
end
/-- a row, commas between -/
def J : List PyData → List Str
  | [] => []
  | d :: ds => tk d ++ tkM ds
theorem tkM_app (a b : List PyData) : tkM (a ++ b) = tkM a ++ tkM b := by
  induction a with
  | nil => rfl
  | cons d a ih =>
    rw [List.cons_append, tkM, tkM, ih]
    simp
theorem J_snoc (r : List PyData) (d : PyData) : J (r ++ [d]) = J r ++ (if r = [] then [] else [(("," : Str))]) ++ tk d := by
  cases r with
  | nil => simp [J, tkM]
  | cons e r =>
    rw [if_neg (by simp)]
    show tk e ++ tkM (r ++ [d]) = tk e ++ tkM r ++ [(("," : Str))] ++ tk d
    rw [tkM_app, tkM, tkM]
    simp
theorem tk_tuple (h : Str) {r : List PyData} (n : r ≠ []) : tk (.tuple (.str h :: r)) = h :: "(" :: (J r ++ [((")" : Str))]) := by
  cases r with
  | nil => exact absurd rfl n
  | cons e r =>
    rw [tk, tkA]
    show tS h.cps.toList :: _ = _
    rw [tS_list]
    show _ = h :: "(" :: (tk e ++ tkM r ++ [((")" : Str))])
    simp
theorem tk_cell (h : Str) : tk (.tuple [.str h]) = [h] := by
  rw [tk]
  show [tS h.cps.toList] = _
  rw [tS_list]
/-- what stands ahead of the last row -/
def ahead : List Str → List (List PyData) → List Str
  | h :: hs, r :: rs => ahead hs rs ++ J r ++ (if r = [] then [] else [(("," : Str))]) ++ [h, (("(" : Str))]
  | _, _ => []
/-- the words so far -/
def soFar (m : PM) : List Str := match m.rs with
  | r :: rs => ahead m.hs rs ++ J r ++ (if m.last = "," then [(("," : Str))] else [])
  | [] => []
/-- the lowest row: none in it while a head waits -/
def low : List Str → List (List PyData) → Prop
  | [], [] => True
  | _ :: hs, r :: rs => (hs = [] → r = []) ∧ low hs rs
  | _, _ => False
structure Snd (m : PM) : Prop where
  row : ∃ r rs, m.rs = r :: rs ∧ low m.hs rs ∧ (m.hs = [] → r.length ≤ 1 ∧ m.last ≠ "," ∧ (m.last = "(" → r = [])) ∧ (ended m.last = true → r ≠ []) ∧ (m.last = "," → r ≠ []) ∧ (m.last = "(" → r = []) ∧ (Txt.isalpha m.last = true → ∃ r0, r = r0 ++ [.tuple [.str m.last]])
def okW (w : Str) : Prop := Txt.isalpha w = true ∨ w = "(" ∨ w = ")" ∨ w = ","
theorem sign_no : Txt.isalpha "(" = false ∧ Txt.isalpha ")" = false ∧ Txt.isalpha "," = false ∧ ended "(" = false ∧ ended ")" = true ∧ ended "," = false := by decide +kernel
theorem not_ended {x : Str} (h : ¬ ended x = true) : x = "(" ∨ x = "," := by
  unfold ended at h
  by_cases a : x = "("
  · exact .inl a
  · refine .inr (Classical.byContradiction fun b => h ?_)
    rw [decide_eq_false a, decide_eq_false b]
    rfl
theorem snd_step {m m' : PM} {w : Str} (hS : Snd m) (ok : okW w) (e : pstep m w = some m') : Snd m' ∧ soFar m' = soFar m ++ [w] := by
  obtain ⟨hs, rs, last⟩ := m
  obtain ⟨r, rs, e0, lo, one, en0, cm0, op0, al0⟩ := hS.row
  have e0 : _ = r :: rs := e0
  subst e0
  obtain ⟨n1, n2, n3, n4, n5, n6⟩ := sign_no
  unfold pstep at e
  by_cases al : Txt.isalpha w = true
  · rw [if_pos al] at e
    by_cases en : ended last = true
    · rw [if_pos en] at e
      cases e
    · rw [if_neg en] at e
      have e : some (PM.mk hs ((r ++ [.tuple [.str w]]) :: rs) w) = some m' := e
      cases e
      have wn : w ≠ "(" ∧ w ≠ "," := ⟨fun z => (by rw [z, n1] at al; cases al), fun z => (by rw [z, n3] at al; cases al)⟩
      refine ⟨⟨⟨_, _, rfl, lo, fun z => ⟨?_, wn.2, fun y => absurd y wn.1⟩, fun _ => by simp, fun y => absurd y wn.2, fun y => absurd y wn.1, fun _ => ⟨r, rfl⟩⟩⟩, ?_⟩
      · rcases not_ended en with z2 | z2
        · rw [(one z).2.2 z2]
          simp
        · exact absurd z2 (one z).2.1
      · show ahead hs rs ++ J (r ++ [.tuple [.str w]]) ++ (if w = "," then [(("," : Str))] else []) = ahead hs rs ++ J r ++ (if last = "," then [(("," : Str))] else []) ++ [w]
        rw [if_neg wn.2, J_snoc, tk_cell]
        rcases not_ended en with z2 | z2
        · rw [op0 z2, z2, if_pos rfl, if_neg (by decide)]
          simp
        · rw [if_neg (cm0 z2), if_pos z2]
          simp
  · rw [if_neg al] at e
    by_cases ew : w = "("
    · rw [if_pos ew] at e
      by_cases la : Txt.isalpha last = true
      · rw [if_pos la] at e
        have e : some (PM.mk (last :: hs) ([] :: r.dropLast :: rs) w) = some m' := e
        cases e
        obtain ⟨r0, er⟩ := al0 la
        have er : r = r0 ++ [.tuple [.str last]] := er
        subst er
        rw [List.dropLast_concat]
        have ln : last ≠ "," := fun z => by rw [z, n3] at la; cases la
        refine ⟨⟨⟨_, _, rfl, ⟨fun z => ?_, lo⟩, fun z => (by cases z), fun y => ?_, fun y => ?_, fun _ => rfl, fun y => ?_⟩⟩, ?_⟩
        · have := (one z).1
          rw [List.length_append, List.length_singleton] at this
          exact List.eq_nil_of_length_eq_zero (by omega)
        · have y : ended w = true := y
          rw [ew, n4] at y
          cases y
        · have y : w = "," := y
          rw [ew] at y
          exact absurd y (by decide)
        · have y : Txt.isalpha w = true := y
          exact absurd y al
        · show ahead hs rs ++ J r0 ++ (if r0 = [] then [] else [(("," : Str))]) ++ [last, (("(" : Str))] ++ [] ++ (if w = "," then [(("," : Str))] else []) = ahead hs rs ++ J (r0 ++ [.tuple [.str last]]) ++ (if last = "," then [(("," : Str))] else []) ++ [w]
          rw [if_neg ln, J_snoc, tk_cell, ew, if_neg (show ¬ (("(" : Str)) = "," by decide)]
          simp
      · rw [if_neg la] at e
        cases e
    · rw [if_neg ew] at e
      by_cases en : ended last = true
      · rw [if_pos en] at e
        have ln : last ≠ "," := fun z => by rw [z, n6] at en; cases en
        cases hs with
        | nil => cases e
        | cons h hs =>
          by_cases ec : w = ")"
          · have e : (if w = ")" then (match r :: rs with | r :: r2 :: rs => some (PM.mk hs ((r2 ++ [.tuple (.str h :: r)]) :: rs) w) | _ => none) else _) = some m' := e
            rw [if_pos ec] at e
            cases rs with
            | nil => cases e
            | cons r2 rs2 =>
              have e : some (PM.mk hs ((r2 ++ [.tuple (.str h :: r)]) :: rs2) w) = some m' := e
              cases e
              have nr := en0 en
              have lo2 : (hs = [] → r2 = []) ∧ low hs rs2 := lo
              have wo : w ≠ "(" ∧ w ≠ "," := by
                rw [ec]
                decide
              refine ⟨⟨⟨_, _, rfl, lo2.2, fun z => ⟨?_, wo.2, fun y => absurd y wo.1⟩, fun _ => by simp, fun y => absurd y wo.2, fun y => absurd y wo.1, fun y => absurd y al⟩⟩, ?_⟩
              · have z : hs = [] := z
                rw [lo2.1 z]
                exact Nat.le_refl _
              · show ahead hs rs2 ++ J (r2 ++ [.tuple (.str h :: r)]) ++ (if w = "," then [(("," : Str))] else []) = (ahead hs rs2 ++ J r2 ++ (if r2 = [] then [] else [(("," : Str))]) ++ [h, (("(" : Str))]) ++ J r ++ (if last = "," then [(("," : Str))] else []) ++ [w]
                rw [if_neg wo.2, if_neg ln, J_snoc, tk_tuple h nr, ec]
                simp
          · have e : (if w = ")" then _ else some (PM.mk (h :: hs) (r :: rs) w)) = some m' := e
            rw [if_neg ec] at e
            cases e
            have wc : w = "," := by
              rcases ok with z | z | z | z
              · exact absurd z al
              · exact absurd z ew
              · exact absurd z ec
              · exact z
            refine ⟨⟨⟨_, _, rfl, lo, fun z => (by cases z), fun y => ?_, fun _ => en0 en, fun y => absurd y ew, fun y => absurd y al⟩⟩, ?_⟩
            · exact en0 en
            · show ahead (h :: hs) rs ++ J r ++ (if w = "," then [(("," : Str))] else []) = ahead (h :: hs) rs ++ J r ++ (if last = "," then [(("," : Str))] else []) ++ [w]
              rw [if_pos wc, if_neg ln, wc]
              simp
      · rw [if_neg en] at e
        cases e
theorem run_snd : ∀ (ws : List Str) (m m' : PM), Snd m → (∀ w, w ∈ ws → okW w) → prun ws m = some m' → Snd m' ∧ soFar m' = soFar m ++ ws
  | [], m, m', h, _, e => by
    cases e
    exact ⟨h, by simp⟩
  | w :: ws, m, m', h, ok, e => by
    have e : (pstep m w).bind (prun ws) = some m' := e
    cases e1 : pstep m w with
    | none =>
      rw [e1] at e
      cases e
    | some m1 =>
      rw [e1] at e
      obtain ⟨h1, s1⟩ := snd_step h (ok w List.mem_cons_self) e1
      obtain ⟨h2, s2⟩ := run_snd ws m1 m' h1 (fun v hv => ok v (List.mem_cons_of_mem _ hv)) e
      exact ⟨h2, by rw [s2, s1]; simp⟩
theorem snd0 : Snd pm0 := ⟨⟨[], [], rfl, trivial, fun _ => ⟨Nat.zero_le _, by decide, fun _ => rfl⟩, fun z => absurd z (by decide), fun z => absurd z (by decide), fun _ => rfl, fun z => absurd z (by decide +kernel)⟩⟩
/-- the machine reads nothing but the words of what it gives -/
theorem parse_sound {ws : List Str} {d : PyData} (ok : ∀ w, w ∈ ws → okW w) (h : parseD ws = some d) : ws = tk d := by
  unfold parseD at h
  cases e : prun ws pm0 with
  | none =>
    rw [e] at h
    cases h
  | some m =>
    rw [e] at h
    have h : pout m = some d := h
    obtain ⟨hm, sf⟩ := run_snd ws pm0 m snd0 ok e
    have z : soFar pm0 = [] := by decide
    rw [z, List.nil_append] at sf
    obtain ⟨hs, rs, last⟩ := m
    obtain ⟨r, rs, e0, lo, one, en0, cm0, op0, al0⟩ := hm.row
    have e0 : _ = r :: rs := e0
    subst e0
    unfold pout at h
    by_cases c : ended last = true ∧ hs = []
    · rw [if_pos c] at h
      obtain ⟨c1, c2⟩ := c
      subst c2
      cases rs with
      | cons a b => exact lo.elim
      | nil =>
        obtain ⟨l1, lc, _⟩ := one rfl
        have ne := en0 c1
        match r, l1, ne, h with
        | [], _, ne, _ => exact absurd rfl ne
        | [d2], _, _, h =>
          have h : some d2 = some d := h
          cases h
          rw [← sf]
          show [] ++ (tk d ++ []) ++ (if last = "," then [(("," : Str))] else []) = tk d
          rw [if_neg lc]
          simp
        | _ :: _ :: _, l1, _, _ => simp at l1
    · rw [if_neg c] at h
      cases h
theorem nm_alpha {x : Str} (h : isNm x = true) : Txt.isalpha x = true := by
  have e := name_txt x
  have h2 : (decide (1 ≤ x.length) && x.cps.all letter) = true := by
    simp only [isNm, Bool.and_eq_true, decide_eq_true_eq] at h ⊢
    exact ⟨h.1.1, h.2⟩
  rw [h2] at e
  simp only [Bool.and_eq_true] at e
  exact e.2.1
theorem step_word {hs : List Str} {r : List PyData} {rs : List (List PyData)} {last x : Str} (a : Txt.isalpha x = true) (n : ended last = false) : pstep ⟨hs, r :: rs, last⟩ x = some ⟨hs, (r ++ [.tuple [.str x]]) :: rs, x⟩ := by
  unfold pstep
  rw [if_pos a, if_neg (by rw [n]; decide)]
mutual
theorem run_tk : ∀ (d : PyData) (hs : List Str) (r : List PyData) (rs : List (List PyData)) (last : Str), formedD d = true → ended last = false → ∃ l, ended l = true ∧ ∀ ws, prun (tk d ++ ws) ⟨hs, r :: rs, last⟩ = prun ws ⟨hs, (r ++ [d]) :: rs, l⟩
  | .none, _, _, _, _, h, _ => by cases h
  | .bool _, _, _, _, _, h, _ => by cases h
  | .int _, _, _, _, _, h, _ => by cases h
  | .str _, _, _, _, _, h, _ => by cases h
  | .list _, _, _, _, _, h, _ => by cases h
  | .dict _, _, _, _, _, h, _ => by cases h
  | .tuple [], _, _, _, _, h, _ => by cases h
  | .tuple (d :: []), hs, r, rs, last, h, n => by
    simp only [formedD, Bool.and_eq_true] at h
    cases d with
    | str x =>
      have a := nm_alpha (x := x) h.1.2
      refine ⟨x, alpha_ended a, fun ws => ?_⟩
      rw [tk_cell]
      show (pstep _ x).bind (prun ws) = _
      rw [step_word a n]
      rfl
    | _ => cases h.1.2
  | .tuple (d :: e :: es), hs, r, rs, last, h, n => by
    simp only [formedD, formedAll, Bool.and_eq_true] at h
    cases d with
    | str x =>
      have a := nm_alpha (x := x) h.1.2
      obtain ⟨l1, en1, r1⟩ := run_tk e (x :: hs) [] (r :: rs) "(" h.2.1 (by decide)
      obtain ⟨l2, en2, r2⟩ := run_tkM es x hs [e] (r :: rs) l1 h.2.2 en1
      refine ⟨")", by decide, fun ws => ?_⟩
      have ew : tk (.tuple (.str x :: e :: es)) ++ ws = x :: "(" :: (tk e ++ (tkM es ++ ((")" : Str) :: ws))) := by
        rw [tk_tuple x (by simp)]
        simp [J]
      rw [ew]
      show (pstep ⟨hs, r :: rs, last⟩ x).bind (prun _) = _
      rw [step_word a n]
      show (pstep ⟨hs, (r ++ [.tuple [.str x]]) :: rs, x⟩ "(").bind (prun _) = _
      have s2 : pstep ⟨hs, (r ++ [.tuple [.str x]]) :: rs, x⟩ "(" = some ⟨x :: hs, [] :: r :: rs, "("⟩ := by
        unfold pstep
        rw [if_neg (by rw [sign_no.1]; decide), if_pos rfl, if_pos a]
        show some (PM.mk (x :: hs) ([] :: (r ++ [PyData.tuple [PyData.str x]]).dropLast :: rs) "(") = _
        rw [List.dropLast_concat]
      rw [s2]
      show prun (tk e ++ (tkM es ++ ((")" : Str) :: ws))) ⟨x :: hs, [] :: r :: rs, "("⟩ = _
      rw [r1]
      show prun (tkM es ++ ((")" : Str) :: ws)) ⟨x :: hs, [e] :: r :: rs, l1⟩ = _
      rw [r2]
      show (pstep ⟨x :: hs, (e :: es) :: r :: rs, l2⟩ ")").bind (prun ws) = _
      have s3 : pstep ⟨x :: hs, (e :: es) :: r :: rs, l2⟩ ")" = some ⟨hs, (r ++ [.tuple (.str x :: e :: es)]) :: rs, ")"⟩ := by
        unfold pstep
        rw [if_neg (by rw [sign_no.2.1]; decide), if_neg (by decide), if_pos en2]
        exact if_pos rfl
      rw [s3]
      rfl
    | _ => cases h.1.2
theorem run_tkM : ∀ (es : List PyData) (h : Str) (hs : List Str) (q : List PyData) (rs : List (List PyData)) (l : Str), formedAll es = true → ended l = true → ∃ l', ended l' = true ∧ ∀ ws, prun (tkM es ++ ws) ⟨h :: hs, q :: rs, l⟩ = prun ws ⟨h :: hs, (q ++ es) :: rs, l'⟩
  | [], h, hs, q, rs, l, _, en => ⟨l, en, fun ws => by simp [tkM]⟩
  | e :: es, h, hs, q, rs, l, hf, en => by
    rw [formedAll, Bool.and_eq_true] at hf
    obtain ⟨l1, en1, r1⟩ := run_tk e (h :: hs) q rs "," hf.1 (by decide)
    obtain ⟨l2, en2, r2⟩ := run_tkM es h hs (q ++ [e]) rs l1 hf.2 en1
    refine ⟨l2, en2, fun ws => ?_⟩
    have ew : tkM (e :: es) ++ ws = ("," : Str) :: (tk e ++ (tkM es ++ ws)) := by
      rw [tkM]
      simp
    rw [ew]
    show (pstep ⟨h :: hs, q :: rs, l⟩ ",").bind (prun _) = _
    have s1 : pstep ⟨h :: hs, q :: rs, l⟩ "," = some ⟨h :: hs, q :: rs, ","⟩ := by
      unfold pstep
      rw [if_neg (by rw [sign_no.2.2.1]; decide), if_neg (by decide), if_pos en]
      exact if_neg (by decide)
    rw [s1]
    show prun (tk e ++ (tkM es ++ ws)) ⟨h :: hs, q :: rs, ","⟩ = _
    rw [r1, r2, List.append_assoc]
    rfl
end
/-- and it reads the words of each formed datum -/
theorem parse_all {d : PyData} (h : formedD d = true) : parseD (tk d) = some d := by
  obtain ⟨l, en, r⟩ := run_tk d [] [] [] "(" h (by decide)
  have e := r []
  rw [List.append_nil] at e
  have e : prun (tk d) pm0 = prun [] ⟨[], ([] ++ [d]) :: [], l⟩ := e
  unfold parseD
  rw [e]
  exact if_pos ⟨en, rfl⟩
end K04
/-! Words in a text. -/
namespace K04
open PySem PySem.Spec PyProof.Rows L2 Kx
/-- one sign replaced -/
def rep (c : Nat) (z : List Nat) (l : List Nat) : List Nat := l.flatMap fun x => if x = c then z else [x]
theorem rep_app (c : Nat) (z a b : List Nat) : rep c z (a ++ b) = rep c z a ++ rep c z b := by simp [rep]
theorem rep_free {c : Nat} {z : List Nat} : ∀ {l : List Nat}, c ∉ l → rep c z l = l
  | [], _ => rfl
  | x :: l, h => by
    rw [List.mem_cons, not_or] at h
    show (if x = c then z else [x]) ++ rep c z l = x :: l
    rw [if_neg (Ne.symm h.1), rep_free h.2]
    rfl
theorem rep_join (c : Nat) (z : Str) : ∀ ps : List Str, (∀ p, p ∈ ps → c ∉ p.cps.toList) → rep c z.cps.toList (Str.join ⟨#[c]⟩ ps).cps.toList = (Str.join z ps).cps.toList
  | [], _ => rfl
  | [p], h => rep_free (h p List.mem_cons_self)
  | p :: q :: r, h => by
    have ih := rep_join c z (q :: r) (fun a ha => h a (List.mem_cons_of_mem _ ha))
    show rep c z.cps.toList ((p ++ ⟨#[c]⟩ ++ Str.join ⟨#[c]⟩ (q :: r) : Str)).cps.toList = ((p ++ z ++ Str.join z (q :: r) : Str)).cps.toList
    rw [str_app, str_app, str_app, str_app, rep_app, rep_app, ih, rep_free (h p List.mem_cons_self)]
    show p.cps.toList ++ ((if c = c then z.cps.toList else [c]) ++ []) ++ _ = _
    rw [if_pos rfl, List.append_nil]
theorem replace_rep (x z : Str) (c : Nat) : (Txt.replace x ⟨#[c]⟩ z).cps.toList = rep c z.cps.toList x.cps.toList := by
  rw [StrLaws.replace_one]
  have h := rep_join c z (Txt.split x ⟨#[c]⟩) (StrLaws.split_free x c)
  rw [StrLaws.join_split] at h
  exact h.symm
def sgn (x : Nat) : Bool := decide (x = 40) || decide (x = 41) || decide (x = 44)
/-- the signs away -/
def bare (l : List Nat) : List Nat := l.filter fun x => !sgn x
theorem rep_nil (c : Nat) (l : List Nat) : rep c [] l = l.filter fun x => !decide (x = c) := by
  induction l with
  | nil => rfl
  | cons x l ih =>
    show (if x = c then [] else [x]) ++ rep c [] l = _
    rw [ih]
    by_cases e : x = c <;> simp [e]
theorem bare_rep (l : List Nat) : rep 44 [] (rep 41 [] (rep 40 [] l)) = bare l := by
  rw [rep_nil, rep_nil, rep_nil, List.filter_filter, List.filter_filter]
  unfold bare
  congr 1
  funext x
  unfold sgn
  cases decide (x = 40) <;> cases decide (x = 41) <;> cases decide (x = 44) <;> rfl
/-- blanks about the signs -/
def airy (l : List Nat) : List Nat := l.flatMap fun x => if sgn x = true then [32, x, 32] else [x]
theorem airy_rep (l : List Nat) : rep 44 [32, 44, 32] (rep 41 [32, 41, 32] (rep 40 [32, 40, 32] l)) = airy l := by
  induction l with
  | nil => rfl
  | cons x l ih =>
    have e : rep 44 [32, 44, 32] (rep 41 [32, 41, 32] (rep 40 [32, 40, 32] [x])) = airy [x] := by
      by_cases h1 : x = 40
      · subst h1
        decide
      · by_cases h2 : x = 41
        · subst h2
          decide
        · by_cases h3 : x = 44
          · subst h3
            decide
          · simp [rep, airy, sgn, h1, h2, h3]
    rw [show x :: l = [x] ++ l from rfl, rep_app, rep_app, rep_app, ih, e]
    simp [airy]
/-- the words of a text whose other signs are letters: runs, and the signs alone -/
def wstepA (st : List (List Nat) × List Nat) (c : Nat) : List (List Nat) × List Nat :=
  if sgn c = true then (st.1 ++ (if st.2 = [] then [] else [st.2]) ++ [[c]], []) else (st.1, st.2 ++ [c])
open TL in
theorem fold_airy : ∀ (l : List Nat) (st : List (List Nat) × List Nat), (∀ c, c ∈ l → sgn c = false → Unicode.isSpace c = false) → (airy l).foldl wstep st = l.foldl wstepA st
  | [], _, _ => rfl
  | c :: l, (ws, u), h => by
    have hl := fun x hx => h x (List.mem_cons_of_mem _ hx)
    have e : airy (c :: l) = (if sgn c = true then [32, c, 32] else [c]) ++ airy l := rfl
    rw [e, List.foldl_append, List.foldl_cons]
    rw [fold_airy l _ hl]
    congr 1
    have s32 : Unicode.isSpace 32 = true := by decide +kernel
    by_cases g : sgn c = true
    · rw [if_pos g]
      have ns : Unicode.isSpace c = false := by
        have : c = 40 ∨ c = 41 ∨ c = 44 := by
          unfold sgn at g
          simpa [or_assoc] using g
        rcases this with rfl | rfl | rfl <;> decide +kernel
      unfold wstepA
      rw [if_pos g]
      show wstep (wstep (wstep (ws, u) 32) c) 32 = _
      by_cases hu : u = []
      · subst hu
        have a : wstep (ws, []) 32 = (ws, []) := by simp [wstep, s32]
        have b : wstep (ws, []) c = (ws, [c]) := by simp [wstep, ns]
        rw [a, b]
        simp [wstep, s32]
      · have a : wstep (ws, u) 32 = (ws ++ [u], []) := by simp [wstep, s32, hu]
        have b : wstep (ws ++ [u], []) c = (ws ++ [u], [c]) := by simp [wstep, ns]
        rw [a, b]
        simp [wstep, s32, hu]
    · rw [if_neg g]
      have ns := h c List.mem_cons_self (by simpa using g)
      unfold wstepA
      rw [if_neg g]
      show wstep (ws, u) c = _
      simp [wstep, ns]
theorem wsign (st : List (List Nat) × List Nat) {c : Nat} (h : sgn c = true) : wstepA st c = (TL.wfin st ++ [[c]], []) := by
  unfold wstepA TL.wfin
  rw [if_pos h]
  by_cases e : st.2 = [] <;> simp [e]
theorem wrun : ∀ (p : List Nat) (ws : List (List Nat)) (u : List Nat), (∀ c, c ∈ p → sgn c = false) → p.foldl wstepA (ws, u) = (ws, u ++ p)
  | [], ws, u, _ => by simp
  | c :: p, ws, u, h => by
    rw [List.foldl_cons]
    have e : wstepA (ws, u) c = (ws, u ++ [c]) := by
      unfold wstepA
      rw [if_neg (by rw [h c List.mem_cons_self]; decide)]
    rw [e, wrun p ws _ fun x hx => h x (List.mem_cons_of_mem _ hx)]
    simp
theorem nm_signs {x : Str} (h : isNm x = true) : x.cps.toList ≠ [] ∧ ∀ c, c ∈ x.cps.toList → sgn c = false := by
  simp only [isNm, Bool.and_eq_true, decide_eq_true_eq] at h
  refine ⟨fun e => ?_, fun c hc => ?_⟩
  · have : x.length = x.cps.toList.length := (Array.length_toList ..).symm
    rw [e] at this
    have l : x.length = 0 := this
    omega
  · have := (Array.all_eq_true'.mp h.2) c (Array.mem_toList_iff.mp hc)
    simp only [letter, Bool.and_eq_true, decide_eq_true_eq] at this
    unfold sgn
    simp
    omega
abbrev cs (l : List Str) : List (List Nat) := l.map fun x => x.cps.toList
mutual
theorem wtx : ∀ (d : PyData) (ws : List (List Nat)), formedD d = true → TL.wfin ((tx d).foldl wstepA (ws, [])) = ws ++ cs (tk d)
  | .none, _, h => by cases h
  | .bool _, _, h => by cases h
  | .int _, _, h => by cases h
  | .str _, _, h => by cases h
  | .list _, _, h => by cases h
  | .dict _, _, h => by cases h
  | .tuple [], _, h => by cases h
  | .tuple (d :: []), ws, h => by
    simp only [formedD, Bool.and_eq_true] at h
    cases d with
    | str x =>
      obtain ⟨n0, n1⟩ := nm_signs (x := x) h.1.2
      rw [tk_cell]
      show TL.wfin ((x.cps.toList ++ []).foldl wstepA (ws, [])) = _
      rw [List.append_nil, wrun _ _ _ n1, List.nil_append]
      exact if_neg n0
    | _ => cases h.1.2
  | .tuple (d :: e :: es), ws, h => by
    simp only [formedD, formedAll, Bool.and_eq_true] at h
    cases d with
    | str x =>
      obtain ⟨n0, n1⟩ := nm_signs (x := x) h.1.2
      have e1 : tx (.tuple (.str x :: e :: es)) = x.cps.toList ++ ([40] ++ (tx e ++ (txM es ++ [41]))) := rfl
      rw [e1, List.foldl_append, wrun _ _ _ n1, List.nil_append, List.foldl_append, List.foldl_append, List.foldl_append]
      have e2 : [40].foldl wstepA (ws, x.cps.toList) = (ws ++ [x.cps.toList, [40]], []) := by
        show wstepA (ws, x.cps.toList) 40 = _
        rw [wsign _ (by decide)]
        unfold TL.wfin
        rw [if_neg n0]
        simp
      rw [e2]
      have r1 := wtx e (ws ++ [x.cps.toList, [40]]) h.2.1
      have r2 := wtxM es ((tx e).foldl wstepA (ws ++ [x.cps.toList, [40]], [])) h.2.2
      show TL.wfin (wstepA _ 41) = _
      rw [wsign _ (by decide), r2, r1, tk_tuple x (by simp)]
      show TL.wfin (_, []) = _
      unfold TL.wfin
      rw [if_pos rfl]
      show (ws ++ [x.cps.toList, [40]]) ++ cs (tk e) ++ cs (tkM es) ++ [[41]] = ws ++ (x.cps.toList :: [40] :: cs (tk e ++ tkM es ++ [((")" : Str))]))
      have e3 : cs (tk e ++ tkM es ++ [((")" : Str))]) = cs (tk e) ++ cs (tkM es) ++ [[41]] := by
        simp [cs]
        rfl
      rw [e3]
      simp
    | _ => cases h.1.2
theorem wtxM : ∀ (es : List PyData) (st : List (List Nat) × List Nat), formedAll es = true → TL.wfin ((txM es).foldl wstepA st) = TL.wfin st ++ cs (tkM es)
  | [], st, _ => by simp [txM, tkM]
  | e :: es, st, h => by
    rw [formedAll, Bool.and_eq_true] at h
    have e1 : txM (e :: es) = [44] ++ (tx e ++ txM es) := rfl
    rw [e1, List.foldl_append, List.foldl_append]
    have e2 : [44].foldl wstepA st = (TL.wfin st ++ [[44]], []) := wsign (c := 44) st (by decide)
    rw [e2]
    have r1 := wtx e (TL.wfin st ++ [[44]]) h.1
    have r2 := wtxM es ((tx e).foldl wstepA (TL.wfin st ++ [[44]], [])) h.2
    rw [r2, r1, tkM]
    show TL.wfin st ++ [[44]] ++ cs (tk e) ++ cs (tkM es) = TL.wfin st ++ ([44] :: cs (tk e ++ tkM es))
    simp [cs]
end
/-- a row of words -/
def Wd (w : List Nat) : Prop := (∃ c, sgn c = true ∧ w = [c]) ∨ (w ≠ [] ∧ ∀ c, c ∈ w → sgn c = false)
theorem wkeep0 (st : List (List Nat) × List Nat) (h1 : ∀ w, w ∈ st.1 → Wd w) (h2 : ∀ c, c ∈ st.2 → sgn c = false) : (∀ w, w ∈ TL.wfin st → Wd w) ∧ (TL.wfin st).flatten = st.1.flatten ++ st.2 := by
  unfold TL.wfin
  by_cases e : st.2 = []
  · rw [if_pos e]
    exact ⟨h1, by simp [e]⟩
  · rw [if_neg e]
    refine ⟨fun w hw => ?_, by simp⟩
    rcases List.mem_append.mp hw with hw | hw
    · exact h1 w hw
    · rw [List.mem_singleton.mp hw]
      exact .inr ⟨e, h2⟩
/-- what the words are -/
theorem wkeep : ∀ (l : List Nat) (st : List (List Nat) × List Nat), (∀ w, w ∈ st.1 → Wd w) → (∀ c, c ∈ st.2 → sgn c = false) → (∀ w, w ∈ TL.wfin (l.foldl wstepA st) → Wd w) ∧ (TL.wfin (l.foldl wstepA st)).flatten = st.1.flatten ++ st.2 ++ l
  | [], st, h1, h2 => by
    rw [List.append_nil]
    exact wkeep0 st h1 h2
  | c :: l, st, h1, h2 => by
    rw [List.foldl_cons]
    by_cases g : sgn c = true
    · rw [wsign st g]
      obtain ⟨z1, z2⟩ := wkeep0 st h1 h2
      obtain ⟨y1, y2⟩ := wkeep l (TL.wfin st ++ [[c]], []) (fun w hw => by
        rcases List.mem_append.mp hw with hw | hw
        · exact z1 w hw
        · rw [List.mem_singleton.mp hw]
          exact .inl ⟨c, g, rfl⟩) (fun c hc => nomatch hc)
      refine ⟨y1, ?_⟩
      rw [y2]
      show (TL.wfin st ++ [[c]]).flatten ++ [] ++ l = _
      rw [List.flatten_append, z2]
      simp
    · have e : wstepA st c = (st.1, st.2 ++ [c]) := by
        unfold wstepA
        rw [if_neg g]
      rw [e]
      obtain ⟨y1, y2⟩ := wkeep l (st.1, st.2 ++ [c]) h1 (fun x hx => by
        rcases List.mem_append.mp hx with hx | hx
        · exact h2 x hx
        · rw [List.mem_singleton.mp hx]
          simpa using g)
      exact ⟨y1, by rw [y2]; simp⟩
end K04
/-! Defs with str.replace; defs that raise. -/
namespace Kx
open PySem PySem.Spec PyProof.Rows L2 CwR
section
variable {X : Cx} {o e : Expr} {to te : TE} {pos : Pos}
theorem pst_set {i : Nat} {x : Str} {pos' : Pos} (hN : X.N.Nodup) (hi : X.N[i]? = some x) (hx : Loc X.env.scope x) (he : PET X e te) (hs : swapsWith e (some (.Name x pos')) pos.line X.env = pure false := by rfl) (hf : X.fn x = true ∨ X.env.scope.names.lookup x = some .local := by first | exact .inl rfl | exact .inr rfl | assumption) :
    PST X (.Assign [.Name x pos'] e pos) (tAsg te (gName i)) := by
  intro pins s σ H D h0 I h
  refine wpAny_Assign_Name (thn (he pins s σ H _ h0 I h) fun v s1 ⟨y, H1, I1, r1, q1⟩ => ?_) hs
  exact store_ok I1 hN hi hx r1 (fun s2 I2 => ⟨_, H1, I2, q1⟩) hf
theorem pet_m0 {id : String} {name : Str} {apos pos : Pos} {r : V → List V → Hp → VK → Prop} (slot : Slot "str" name id) (ty : typeOf (.builtin id) = pure (.type "method_descriptor")) (rule : MtR X id r) (ho : PET X o to)
    (hbase : attributeBase o name X.env (eval o X.env) = eval o X.env := by rfl) (hline : (apos.endLine == pos.line) = true := by rfl) : PET X (.Call (.Attribute o name apos) [] [] pos) (tM0 r to) := by
  intro pins s σ H Q h0 I h
  refine PySem.Call_method0 hbase hline (thn (ho pins s σ H _ h0 I h) fun v s1 ⟨x, H1, I1, r1, q1⟩ => ?_)
  obtain ⟨⟨a, rfl⟩, q1⟩ := q1
  obtain ⟨t, rfl⟩ := _root_.id r1
  exact ⟨"str", _, F.plainAttrs_str, slot, ty, typeIs_str _ _ _, (fun _ e => nomatch e), Calls.callWith_builtin rfl (PySem.evalArgs_none (rule pins s1 σ H1 _ [] _ [] Q I1 r1 .nil q1))⟩
theorem pet_words {apos pos : Pos} (ho : PET X o to) (hbase : attributeBase o "split" X.env (eval o X.env) = eval o X.env := by rfl) (hline : (apos.endLine == pos.line) = true := by rfl) :
    PET X (.Call (.Attribute o "split" apos) [] [] pos) (tM0 (fun x xs H Q => ∃ a, x = .str a ∧ xs = [] ∧ a.length + 2 ≤ sizeLine ∧ rNewStrs (Txt.words a) H Q) to) :=
  pet_m0 F.slot_str_split F.type_str_split mt_words ho hbase hline
end
section
variable {P : Program} {w : World} {K : PySem.W.Frag} {mg : Str → Option Value} {base : Heap}
/-- a def in which a token is out from the beginning on (it has a parameter) -/
theorem okT {x qual : Str} {st : Stmt} {f : Addr} {fd : FuncData} {N ps : List Str} {k : Nat} {sp : Sp} (F : Fun K x qual st f fd) (S : FnScope N ps (defScope st)) (hnc : ∀ y ∈ (defScope st).names, y.2 ≠ .cell) (hps : 1 ≤ ps.length) (len : ∀ vs H Q E, sp vs H Q E → vs.length = ps.length)
    (hbody : ∀ (cdv : Value) (A : Around) (outer : List Env) (s : Shared) (H : Hp) (vs : List V) (Q : VK) (E : XK), Room k (A.deeper (envOfC qual (defScope st) s.heap.objs.size f cdv)) → sp vs H Q E →
      ∃ t, PSsT (cxOf CX0 P w K mg base N qual (defScope st) f cdv A outer s H E) (defBody st) t ∧ t { nx := fun _ H' => Q .non H', rt := Q } (start N vs) H) : FnOk P w K mg base CX0 (k + 1) f fd ps sp := by
  obtain ⟨oc, od, kV, doc, pm, an, cdv, ct, osl, rfl, lk, hcd⟩ := F.ex
  exact fn_ofT lk hcd S hnc hps len fun A outer s H vs Q E hr h => hbody cdv A outer s H vs Q E hr h
theorem exm_self {S : Addr} (h1 : PySem.W.subIn K (.ref S) (.type "BaseException") = some true) (h2 : PySem.W.isClsIn K S = true) (h3 : PySem.W.typeIn K (.ref S) = some (.type "type")) (h4 : PySem.W.subIn K (.ref S) (.ref S) = some true) :
    PySem.W.exmOne K (.ref S) (.ref S) = some true := by
  have e1 : (PySem.W.subIn K (.ref S) (.type "BaseException") == some true) = true := by rw [h1] <;> rfl
  have e2 : ((PySem.W.clsIn K S).isSome && PySem.W.typeIn K (.ref S) == some (.type "type")) = true := by
    have h2' : (PySem.W.clsIn K S).isSome = true := h2
    rw [h2', h3] <;> rfl
  show (if (PySem.W.subIn K (.ref S) (.type "BaseException") == some true) = true then (if ((PySem.W.clsIn K S).isSome && PySem.W.typeIn K (.ref S) == some (.type "type")) = true then PySem.W.subIn K (.ref S) (.ref S) else none) else none) = some true
  rw [if_pos e1, if_pos e2]
  exact h4
end
end Kx
/-! words_in. -/
namespace K04
open PySem PySem.Spec PyProof.Rows L2 Kx CwR
def lettersOf (x : Str) : Str := Txt.replace (Txt.replace (Txt.replace x "(" "") ")" "") "," ""
def airyOf (x : Str) : Str := Txt.replace (Txt.replace (Txt.replace x "(" " ( ") ")" " ) ") "," " , "
def wordsOf (x : Str) : List Str := if Txt.isalpha (lettersOf x) = true then Txt.words (airyOf x) else []
section
variable {P : Program} {w : World} {K : PySem.W.Frag} {mg : Str → Option Value} {base : Heap}
def spWords : Sp := fun vs H Q _ => ∃ (x : Str), vs = [.str x] ∧ x.length ≤ 1000 ∧ ∀ p, H p = none → Q (.ref p) (upd H p (.lst ((wordsOf x).map V.str)))
theorem ok_words (T : Tx K mg) : FnOk P w K mg base CX0 1 T.awords_in T.dwords_in ["text"] spWords := by
  have nd := sc_words_in.nd
  refine okT T.fwords_in sc_words_in (by decide +kernel) (by decide) (fun vs H Q E h => ?_) (fun cdv A outer s H vs Q E hr h => ?_)
  · obtain ⟨x, rfl, _⟩ := h
    rfl
  · obtain ⟨x, rfl, hx, q⟩ := h
    refine ⟨_, (psst_cons (pst_set (i := 1) nd rfl (.inl rfl) (pet_replT (pet_replT (pet_replC (pv 0)))))
      (psst_cons (PST.of (ps_if (pt_not (pt_val (pe_bm0 PySem.F.plainAttrs_str PySem.F.slot_str_isalpha PySem.F.type_str_isalpha mt_isalpha (pv 1)))) (pss_one (ps_ret (pe_lst pa_nil))) pss_nil))
      (psst_one (pst_ret (pet_words (pet_replT (pet_replT (pet_replC (pv 0))))))))), ?_⟩
    have l1 := TK.replace_len x "(" ""
    have l2 := TK.replace_len (Txt.replace x "(" "") ")" ""
    have l3 := TK.replace_len (Txt.replace (Txt.replace x "(" "") ")" "") "," ""
    have m1 := TK.replace_len x "(" " ( "
    have m2 := TK.replace_len (Txt.replace x "(" " ( ") ")" " ) "
    have m3 := TK.replace_len (Txt.replace (Txt.replace x "(" " ( ") ")" " ) ") "," " , "
    have z0 : ("" : Str).length = 0 := rfl
    have z1 : (" ( " : Str).length = 3 := rfl
    have z2 : (" ) " : Str).length = 3 := rfl
    have z3 : (" , " : Str).length = 3 := rfl
    rw [z0, Nat.mul_zero, Nat.add_zero] at l1 l2 l3
    rw [z1] at m1
    rw [z2] at m2
    rw [z3] at m3
    have line : 70000 ≤ sizeLine := by decide
    refine ⟨_, rfl, _, rfl, by rw [z0]; omega, _, rfl, by rw [z0]; omega, _, rfl, by rw [z0]; omega, ?_⟩
    refine ⟨_, rfl, rfl, _, rfl, rfl, trivial, _, rfl, ?_⟩
    have q : ∀ p, H p = none → Q (.ref p) (upd H p (.lst ((if Txt.isalpha (lettersOf x) = true then Txt.words (airyOf x) else []).map V.str))) := q
    show if (!Txt.isalpha (lettersOf x)) = true then _ else _
    cases e : Txt.isalpha (lettersOf x) with
    | false =>
      rw [e] at q
      exact iteT ⟨Nat.zero_le _, fun p np => q p np⟩
    | true =>
      rw [e] at q
      refine iteF ⟨_, rfl, _, rfl, by rw [z1]; omega, _, rfl, by rw [z2]; omega, _, rfl, by rw [z3]; omega, ⟨_, rfl⟩, _, rfl, rfl, ?_, fun p np => q p np⟩
      omega
end
end K04
/-! What read_term reads. -/
namespace K04
open PySem PySem.Spec PyProof.Rows L2 Kx CwR
theorem letters_tl (x : Str) : (lettersOf x).cps.toList = bare x.cps.toList := by
  unfold lettersOf
  rw [← bare_rep]
  rw [show ("," : Str) = ⟨#[44]⟩ from rfl, show (")" : Str) = ⟨#[41]⟩ from rfl, show ("(" : Str) = ⟨#[40]⟩ from rfl, replace_rep, replace_rep, replace_rep]
  rfl
theorem airy_tl (x : Str) : (airyOf x).cps.toList = airy x.cps.toList := by
  unfold airyOf
  rw [← airy_rep]
  rw [show ("," : Str) = ⟨#[44]⟩ from rfl, show (")" : Str) = ⟨#[41]⟩ from rfl, show ("(" : Str) = ⟨#[40]⟩ from rfl, replace_rep, replace_rep, replace_rep]
  rfl
theorem within_mem : ∀ (l : List (Nat × Nat)) (c : Nat), Unicode.within l c = true → ∃ p, p ∈ l ∧ p.1 ≤ c ∧ c ≤ p.2
  | [], _, h => by cases h
  | (a, b) :: r, c, h => by
    have h : (if c < a then false else decide (c ≤ b) || Unicode.within r c) = true := h
    by_cases e : c < a
    · rw [if_pos e] at h
      cases h
    · rw [if_neg e, Bool.or_eq_true, decide_eq_true_eq] at h
      rcases h with h | h
      · exact ⟨_, List.mem_cons_self, by show a ≤ c; omega, h⟩
      · obtain ⟨p, hp, q⟩ := within_mem r c h
        exact ⟨p, List.mem_cons_of_mem _ hp, q⟩
theorem space_table : (PySem.UnicodeData.space.all fun p => (List.range (p.2 - p.1 + 1)).all fun i => !Unicode.isAlpha (p.1 + i)) = true := by decide +kernel
theorem alpha_space {c : Nat} (h : Unicode.isAlpha c = true) : Unicode.isSpace c = false := by
  cases e : Unicode.isSpace c with
  | false => rfl
  | true =>
    obtain ⟨p, hp, h1, h2⟩ := within_mem _ _ e
    have z := List.all_eq_true.mp space_table p hp
    have z := List.all_eq_true.mp z (c - p.1) (List.mem_range.mpr (by omega))
    rw [show p.1 + (c - p.1) = c by omega, h] at z
    cases z
theorem isalpha_iff (x : Str) : Txt.isalpha x = true ↔ x.cps.toList ≠ [] ∧ ∀ c, c ∈ x.cps.toList → Unicode.isAlpha c = true := by
  unfold Txt.isalpha
  rw [Bool.and_eq_true, decide_eq_true_eq, Array.all_eq_true']
  constructor
  · rintro ⟨h1, h2⟩
    refine ⟨fun e => ?_, fun c hc => h2 c (Array.mem_toList_iff.mp hc)⟩
    have : x.length = x.cps.toList.length := (Array.length_toList ..).symm
    rw [e] at this
    have : x.length = 0 := this
    omega
  · rintro ⟨h1, h2⟩
    refine ⟨?_, fun c hc => h2 c (Array.mem_toList_iff.mpr hc)⟩
    have e : x.length = x.cps.toList.length := (Array.length_toList ..).symm
    cases k : x.cps.toList with
    | nil => exact absurd k h1
    | cons a l =>
      rw [k] at e
      show 0 < x.length
      rw [e]
      simp
theorem str_of {x y : Str} (h : x.cps.toList = y.cps.toList) : x = y := by
  rw [← tS_list x, ← tS_list y, h]
/-- the words, where all else are letters -/
theorem words_A {x : Str} (h : Txt.isalpha (lettersOf x) = true) : cs (wordsOf x) = TL.wfin (x.cps.toList.foldl wstepA ([], [])) := by
  have e := TL.words_tl (airyOf x)
  unfold wordsOf
  rw [if_pos h]
  have e : cs (Txt.words (airyOf x)) = TL.wfin ((airyOf x).cps.toList.foldl TL.wstep ([], [])) := e
  rw [e, airy_tl, fold_airy]
  intro c hc g
  refine alpha_space ?_
  have z := ((isalpha_iff _).mp h).2 c
  rw [letters_tl] at z
  exact z (List.mem_filter.mpr ⟨hc, by rw [g]; rfl⟩)
theorem parse_none : parseD [] = none := by decide
theorem cs_flat (ws : List Str) : (cs ws).flatten = catS ws := by
  induction ws with
  | nil => rfl
  | cons a ws ih =>
    show a.cps.toList ++ (cs ws).flatten = _
    rw [ih]
    rfl
theorem told_sound {x : Str} {d : PyData} (h : parseD (wordsOf x) = some d) : x = tS (tx d) := by
  by_cases al : Txt.isalpha (lettersOf x) = true
  · have e := words_A al
    obtain ⟨k1, k2⟩ := wkeep x.cps.toList ([], []) (fun w hw => nomatch hw) (fun c hc => nomatch hc)
    rw [← e] at k1 k2
    have k2 : (cs (wordsOf x)).flatten = x.cps.toList := k2
    have ok : ∀ w, w ∈ wordsOf x → okW w := by
      intro w hw
      have hm : w.cps.toList ∈ cs (wordsOf x) := List.mem_map.mpr ⟨w, hw, rfl⟩
      rcases k1 _ hm with ⟨c, g, e2⟩ | ⟨n0, n1⟩
      · unfold sgn at g
        simp only [Bool.or_eq_true, decide_eq_true_eq] at g
        rcases g with (g | g) | g
        · subst g
          exact .inr (.inl (str_of e2))
        · subst g
          exact .inr (.inr (.inl (str_of e2)))
        · subst g
          exact .inr (.inr (.inr (str_of e2)))
      · refine .inl ((isalpha_iff w).mpr ⟨n0, fun c hc => ?_⟩)
        have z := ((isalpha_iff _).mp al).2 c
        rw [letters_tl] at z
        refine z (List.mem_filter.mpr ⟨?_, by rw [n1 c hc]; rfl⟩)
        rw [← k2]
        exact List.mem_flatten.mpr ⟨_, hm, hc⟩
    have e3 := parse_sound ok h
    rw [e3, cs_flat, cat_tk] at k2
    rw [k2, tS_list]
  · unfold wordsOf at h
    rw [if_neg al, parse_none] at h
    cases h
mutual
theorem tx_signs : ∀ (d : PyData), formedD d = true → ∀ c, c ∈ tx d → sgn c = true ∨ letter c = true
  | .none, h => by cases h
  | .bool _, h => by cases h
  | .int _, h => by cases h
  | .str _, h => by cases h
  | .list _, h => by cases h
  | .dict _, h => by cases h
  | .tuple [], h => by cases h
  | .tuple (d :: ds), h => by
    simp only [formedD, Bool.and_eq_true] at h
    intro c hc
    cases d with
    | str x =>
      have nx : isNm x = true := h.1.2
      rcases List.mem_append.mp hc with hc | hc
      · simp only [isNm, Bool.and_eq_true] at nx
        exact .inr ((Array.all_eq_true'.mp nx.2) c (Array.mem_toList_iff.mp hc))
      · exact txA_signs ds h.2 c hc
    | _ => cases h.1.2
theorem txA_signs : ∀ (ds : List PyData), formedAll ds = true → ∀ c, c ∈ txA ds → sgn c = true ∨ letter c = true
  | [], _ => fun c hc => by cases hc
  | e :: es, h => by
    rw [formedAll, Bool.and_eq_true] at h
    intro c hc
    rcases List.mem_cons.mp hc with rfl | hc
    · exact .inl rfl
    · rcases List.mem_append.mp hc with hc | hc
      · exact tx_signs e h.1 c hc
      · rcases List.mem_append.mp hc with hc | hc
        · exact txM_signs es h.2 c hc
        · rw [List.mem_singleton.mp hc]
          exact .inl rfl
theorem txM_signs : ∀ (ds : List PyData), formedAll ds = true → ∀ c, c ∈ txM ds → sgn c = true ∨ letter c = true
  | [], _ => fun c hc => by cases hc
  | e :: es, h => by
    rw [formedAll, Bool.and_eq_true] at h
    intro c hc
    rcases List.mem_cons.mp hc with rfl | hc
    · exact .inl rfl
    · rcases List.mem_append.mp hc with hc | hc
      · exact tx_signs e h.1 c hc
      · exact txM_signs es h.2 c hc
end
theorem letter_alpha {c : Nat} (h : letter c = true) : Unicode.isAlpha c = true := by
  have z := (ascii_at (letter_ascii h)).1
  rw [h] at z
  have z := z.symm
  rw [Bool.and_eq_true] at z
  exact z.1
theorem cs_inj : ∀ {a b : List Str}, cs a = cs b → a = b
  | [], [], _ => rfl
  | [], _ :: _, h => by cases h
  | _ :: _, [], h => by cases h
  | x :: a, y :: b, h => by
    have h1 : x.cps.toList = y.cps.toList := (List.cons.inj h).1
    rw [str_of h1, cs_inj (List.cons.inj h).2]
theorem told_all {d : PyData} (h : formedD d = true) : parseD (wordsOf (tS (tx d))) = some d := by
  have et : (tS (tx d)).cps.toList = tx d := List.toList_toArray ..
  have al : Txt.isalpha (lettersOf (tS (tx d))) = true := by
    refine (isalpha_iff _).mpr ?_
    rw [letters_tl, et]
    refine ⟨fun e => ?_, fun c hc => ?_⟩
    · obtain ⟨x, ds, rfl, _, hn, _⟩ := formed_shape h
      obtain ⟨n0, n1⟩ := nm_signs hn
      cases k : x.cps.toList with
      | nil => exact n0 k
      | cons a l =>
        have hm : a ∈ bare (tx (.tuple (.str x :: ds))) := by
          refine List.mem_filter.mpr ⟨?_, by rw [n1 a (by rw [k]; exact List.mem_cons_self)]; rfl⟩
          show a ∈ x.cps.toList ++ txA ds
          rw [k]
          exact List.mem_append_left _ List.mem_cons_self
        rw [e] at hm
        cases hm
    · obtain ⟨h1, h2⟩ := List.mem_filter.mp hc
      rcases tx_signs d h c h1 with g | g
      · rw [g] at h2
        cases h2
      · exact letter_alpha g
  have e := words_A al
  rw [et, wtx d [] h] at e
  rw [cs_inj (a := wordsOf (tS (tx d))) (b := tk d) (by simpa using e), parse_all h]
/-- what read_term reads in x -/
def toldD (x : Str) : Option PyData := (parseD (wordsOf x)).bind fun d => if termD d = true then some d else none
theorem told_iff (x : Str) (d : PyData) : toldD x = some d ↔ x = tS (tx d) ∧ termD d = true := by
  unfold toldD
  constructor
  · intro h
    cases e : parseD (wordsOf x) with
    | none =>
      rw [e] at h
      cases h
    | some d2 =>
      rw [e] at h
      have h : (if termD d2 = true then some d2 else none) = some d := h
      by_cases t : termD d2 = true
      · rw [if_pos t] at h
        cases h
        exact ⟨told_sound e, t⟩
      · rw [if_neg t] at h
        cases h
  · rintro ⟨rfl, t⟩
    have f : formedD d = true := by
      simp only [termD, Bool.and_eq_true] at t
      exact t.1
    rw [told_all f]
    exact if_pos t
end K04
/-! The law's own reader: what it reads. -/
namespace K04
open PySem PySem.Spec PyProof.Rows L2 Kx
/-- what may stand behind a term -/
def Follow (r : List Nat) : Prop := r = [] ∨ ∃ c l, r = c :: l ∧ (c = 44 ∨ c = 41)
/-- an answer of the reader at s -/
def Res (s : List Nat) : Option (PyData × List Nat) → Prop
  | none => ∀ d r, formedD d = true → Follow r → s ≠ tx d ++ r
  | some (d, r) => formedD d = true ∧ s = tx d ++ r ∧ ∀ d' r', formedD d' = true → Follow r' → s = tx d' ++ r' → d' = d ∧ r' = r
theorem take_run {w t : List Nat} (hw : ∀ c, c ∈ w → letter c = true) (ht : ∀ c l, t = c :: l → letter c = false) : (w ++ t).takeWhile letter = w ∧ (w ++ t).dropWhile letter = t := by
  induction w with
  | nil =>
    cases t with
    | nil => exact ⟨rfl, rfl⟩
    | cons c l =>
      have := ht c l rfl
      simp [this]
  | cons a w ih =>
    have h1 := hw a List.mem_cons_self
    obtain ⟨i1, i2⟩ := ih fun c hc => hw c (List.mem_cons_of_mem _ hc)
    simp [h1, i1, i2]
theorem isNm_iff {x : Str} : isNm x = true ↔ 1 ≤ x.cps.toList.length ∧ x.cps.toList.length ≤ 8 ∧ ∀ c, c ∈ x.cps.toList → letter c = true := by
  simp only [isNm, Bool.and_eq_true, decide_eq_true_eq]
  have e : x.length = x.cps.toList.length := (Array.length_toList ..).symm
  rw [e, Array.all_eq_true', and_assoc]
  refine and_congr_right fun _ => and_congr_right fun _ => ⟨fun h c hc => h c (Array.mem_toList_iff.mp hc), fun h c hc => h c (Array.mem_toList_iff.mpr hc)⟩
theorem follow_head {r : List Nat} (h : Follow r) : ∀ c l, r = c :: l → letter c = false ∧ c ≠ 40 := by
  rintro c l rfl
  rcases h with h | ⟨c', l', e, h⟩
  · cases h
  · cases e
    rcases h with rfl | rfl <;> decide
theorem txA_head {es : List PyData} {r : List Nat} (h : Follow r) : ∀ c l, txA es ++ r = c :: l → letter c = false := by
  intro c l e
  cases es with
  | nil => exact (follow_head h c l e).1
  | cons a es =>
    have e : 40 :: _ = c :: l := e
    cases e
    decide
theorem formed_split {s r : List Nat} {d : PyData} (hd : formedD d = true) (hr : Follow r) (e : s = tx d ++ r) :
    ∃ x es, d = .tuple (.str x :: es) ∧ es.length ≤ 3 ∧ isNm x = true ∧ formedAll es = true ∧ s.takeWhile letter = x.cps.toList ∧ s.dropWhile letter = txA es ++ r := by
  obtain ⟨x, es, rfl, l3, hn, hf⟩ := formed_shape hd
  have e : s = x.cps.toList ++ (txA es ++ r) := by
    rw [e]
    show (x.cps.toList ++ txA es) ++ r = _
    rw [List.append_assoc]
  obtain ⟨t1, t2⟩ := take_run (w := x.cps.toList) (t := txA es ++ r) (isNm_iff.mp hn).2.2 (txA_head hr)
  rw [← e] at t1 t2
  exact ⟨x, es, rfl, l3, hn, hf, t1, t2⟩
theorem split_back (s : List Nat) : s.takeWhile letter ++ s.dropWhile letter = s := List.takeWhile_append_dropWhile
def nmOf (s : List Nat) : Str := tS (s.takeWhile letter)
theorem nmOf_tl (s : List Nat) : (nmOf s).cps.toList = s.takeWhile letter := List.toList_toArray ..
theorem mem_take {s : List Nat} {c : Nat} : c ∈ s.takeWhile letter → letter c = true := by
  induction s with
  | nil => intro h; cases h
  | cons a s ih =>
    intro h
    by_cases e : letter a = true
    · rw [List.takeWhile_cons, if_pos e] at h
      rcases List.mem_cons.mp h with rfl | h
      · exact e
      · exact ih h
    · rw [List.takeWhile_cons, if_neg e] at h
      cases h
theorem nmOf_iff (s : List Nat) : isNm (nmOf s) = true ↔ 1 ≤ (s.takeWhile letter).length ∧ (s.takeWhile letter).length ≤ 8 := by
  rw [isNm_iff, nmOf_tl]
  exact ⟨fun h => ⟨h.1, h.2.1⟩, fun h => ⟨h.1, h.2, fun c hc => mem_take hc⟩⟩
theorem nmOf_eq {s : List Nat} {x : Str} (e : s.takeWhile letter = x.cps.toList) : nmOf s = x := str_of (by rw [nmOf_tl, e])
theorem res_bad {s : List Nat} (h : isNm (nmOf s) = false) : Res s none := fun d r hd hr e => by
  obtain ⟨x, es, _, _, hn, _, t1, _⟩ := formed_split hd hr e
  rw [nmOf_eq t1, hn] at h
  cases h
theorem res_cell {s : List Nat} (hn : isNm (nmOf s) = true) (h : ∀ l, s.dropWhile letter ≠ 40 :: l) : Res s (some (.tuple [.str (nmOf s)], s.dropWhile letter)) := by
  refine ⟨by simp [formedD, formedAll, nameD, hn], ?_, fun d' r' hd hr e => ?_⟩
  · have : tx (.tuple [.str (nmOf s)]) = s.takeWhile letter := by
      show (nmOf s).cps.toList ++ [] = _
      rw [nmOf_tl, List.append_nil]
    rw [this, split_back]
  · obtain ⟨x, es, rfl, _, hn, _, t1, t2⟩ := formed_split hd hr e
    cases es with
    | nil => exact ⟨by rw [nmOf_eq t1], t2.symm⟩
    | cons a es => exact absurd t2 (h _)
def hdT : List PyData → List Nat
  | [] => []
  | d :: ds => 40 :: (tx d ++ txM ds)
def tlT : List PyData → List PyData → List Nat
  | [], es => txA es
  | _ :: _, es => txM es ++ [41]
def sg : List PyData → Nat
  | [] => 40
  | _ :: _ => 44
theorem txM_app (a b : List PyData) : txM (a ++ b) = txM a ++ txM b := by
  induction a with
  | nil => rfl
  | cons x a ih =>
    show 44 :: (tx x ++ txM (a ++ b)) = 44 :: (tx x ++ txM a) ++ txM b
    rw [ih]
    simp
/-- within the brackets: ds are read, t is left -/
structure Pre (s t : List Nat) (ds : List PyData) : Prop where
  len : ds.length ≤ 3
  fm : formedAll ds = true
  eq : s.dropWhile letter = hdT ds ++ t
  un : ∀ es r, formedAll es = true → es.length ≤ 3 → Follow r → s.dropWhile letter = txA es ++ r → ∃ es', es = ds ++ es' ∧ t = tlT ds es' ++ r
theorem pre0 (s : List Nat) : Pre s (s.dropWhile letter) [] := ⟨Nat.zero_le _, rfl, rfl, fun es r _ _ _ e => ⟨es, rfl, e⟩⟩
theorem pre_next {s t : List Nat} {ds es : List PyData} {r : List Nat} (p : Pre s (sg ds :: t) ds) (h1 : formedAll es = true) (h2 : es.length ≤ 3) (h3 : Follow r) (e : s.dropWhile letter = txA es ++ r) :
    ∃ a es', es = ds ++ a :: es' ∧ formedD a = true ∧ t = tx a ++ (txM es' ++ 41 :: r) := by
  obtain ⟨es', rfl, z⟩ := p.un es r h1 h2 h3 e
  rw [formedAll_append, Bool.and_eq_true] at h1
  cases ds with
  | nil =>
    have z : 40 :: t = txA es' ++ r := z
    cases es' with
    | nil => exact absurd rfl (follow_head h3 40 t z.symm).2
    | cons a es' =>
      have z : 40 :: t = 40 :: (tx a ++ (txM es' ++ [41])) ++ r := z
      have h1 := h1.2
      rw [formedAll, Bool.and_eq_true] at h1
      refine ⟨a, es', rfl, h1.1, ?_⟩
      simpa using z
  | cons b ds =>
    have z : 44 :: t = (txM es' ++ [41]) ++ r := z
    cases es' with
    | nil =>
      simp [txM] at z
    | cons a es' =>
      have z : 44 :: t = (44 :: (tx a ++ txM es') ++ [41]) ++ r := z
      have h1 := h1.2
      rw [formedAll, Bool.and_eq_true] at h1
      refine ⟨a, es', rfl, h1.1, ?_⟩
      simpa using z
theorem follow_txM (es : List PyData) (r : List Nat) : Follow (txM es ++ 41 :: r) := by
  cases es with
  | nil => exact .inr ⟨41, r, rfl, .inr rfl⟩
  | cons a es => exact .inr ⟨44, _, rfl, .inl rfl⟩
theorem pre_none {s t : List Nat} {ds : List PyData} (p : Pre s (sg ds :: t) ds) (h : Res t none) : Res s none := fun d r hd hr e => by
  obtain ⟨x, es, _, l3, _, hf, _, t2⟩ := formed_split hd hr e
  obtain ⟨a, es', _, fa, z⟩ := pre_next p hf l3 hr t2
  exact h a _ fa (follow_txM _ _) z
theorem pre_many {s t : List Nat} {ds : List PyData} (p : Pre s (sg ds :: t) ds) (h : 2 < ds.length) : Res s none := fun d r hd hr e => by
  obtain ⟨x, es, _, l3, _, hf, _, t2⟩ := formed_split hd hr e
  obtain ⟨a, es', rfl, _⟩ := pre_next p hf l3 hr t2
  rw [List.length_append, List.length_cons] at l3
  omega
theorem pre_more {s t r : List Nat} {ds : List PyData} {d : PyData} (p : Pre s (sg ds :: t) ds) (h : Res t (some (d, r))) (l : ds.length ≤ 2) : Pre s r (ds ++ [d]) := by
  obtain ⟨h1, h2, h3⟩ := h
  refine ⟨by rw [List.length_append]; simp; omega, by rw [formedAll_append, p.fm]; simp [formedAll, h1], ?_, fun es r0 g1 g2 g3 g4 => ?_⟩
  · rw [p.eq, h2]
    cases ds with
    | nil => simp [hdT, sg, txM]
    | cons b ds => simp [hdT, sg, txM_app, txM]
  · obtain ⟨a, es', rfl, fa, z⟩ := pre_next p g1 g2 g3 g4
    obtain ⟨rfl, e2⟩ := h3 a _ fa (follow_txM _ _) z
    refine ⟨es', by simp, ?_⟩
    rw [← e2]
    cases ds <;> simp [tlT]
theorem pre_end {s t : List Nat} {ds : List PyData} (p : Pre s t ds) (n : ds ≠ []) (h4 : ∀ l, t ≠ 44 :: l) (h1 : ∀ l, t ≠ 41 :: l) : Res s none := fun d r hd hr e => by
  obtain ⟨x, es, _, l3, _, hf, _, t2⟩ := formed_split hd hr e
  obtain ⟨es', _, z⟩ := p.un es r hf l3 hr t2
  cases ds with
  | nil => exact n rfl
  | cons b ds =>
    cases es' with
    | nil => exact h1 r (by simpa [tlT, txM] using z)
    | cons a es' => exact h4 _ (z.trans rfl)
theorem pre_done {s t : List Nat} {ds : List PyData} (hn : isNm (nmOf s) = true) (p : Pre s (41 :: t) ds) (n : ds ≠ []) : Res s (some (.tuple (.str (nmOf s) :: ds), t)) := by
  refine ⟨by simp [formedD, nameD, hn, p.fm, p.len], ?_, fun d' r' hd hr e => ?_⟩
  · refine (split_back s).symm.trans ?_
    rw [p.eq]
    show _ = ((nmOf s).cps.toList ++ txA ds) ++ t
    rw [nmOf_tl]
    cases ds with
    | nil => exact absurd rfl n
    | cons b ds => simp [hdT, txA]
  · obtain ⟨x, es, rfl, l3, hn, hf, t1, t2⟩ := formed_split hd hr e
    obtain ⟨es', rfl, z⟩ := p.un es r' hf l3 hr t2
    rw [nmOf_eq t1]
    cases ds with
    | nil => exact absurd rfl n
    | cons b ds =>
      cases es' with
      | nil =>
        have z : 41 :: t = 41 :: r' := by simpa [tlT, txM] using z
        cases z
        simp
      | cons a es' =>
        have z : 41 :: t = 44 :: _ := z
        cases z
end K04
/-! The law's own reader. -/
namespace Kx
open PySem PySem.Spec PyProof.Rows L2
theorem cutS_nat (z : Str) (i j : Nat) : cutS z (some (i : Int)) (some (j : Int)) = ⟨((z.cps.toList.drop i).take (j - i)).toArray⟩ := by
  unfold cutS
  rw [show HT.sIx z.length 0 (some (i : Int)) = min i z.length from HT.sIx_nat _ _ _, show HT.sIx z.length z.length (some (j : Int)) = min j z.length from HT.sIx_nat _ _ _]
  have e : z.length = z.cps.toList.length := (Array.length_toList ..).symm
  congr 2
  by_cases h : i ≤ z.length
  · rw [Nat.min_eq_left h]
    by_cases h2 : j ≤ z.length
    · rw [Nat.min_eq_left h2]
    · rw [Nat.min_eq_right (by omega), List.take_of_length_le (by rw [List.length_drop]; omega), List.take_of_length_le (by rw [List.length_drop]; omega)]
  · rw [Nat.min_eq_right (show z.length ≤ i by omega), List.drop_eq_nil_of_le (by omega), List.drop_eq_nil_of_le (by omega)]
    simp
theorem cutS_one (z : Str) (i : Nat) : cutS z (some (i : Int)) (some ((i : Int) + 1)) = ⟨((z.cps.toList.drop i).take 1).toArray⟩ := by
  have := cutS_nat z i (i + 1)
  rw [show i + 1 - i = 1 by omega] at this
  exact this
end Kx
namespace K04
open PySem PySem.Spec PyProof.Rows L2 Kx
theorem letters_list : ∀ c, c ∈ (Str.ofString "abcdefghijklmnopqrstuvwxyz").cps.toList ↔ letter c = true := by
  have e : (Str.ofString "abcdefghijklmnopqrstuvwxyz").cps.toList = (List.range 26).map fun i => 97 + i := by decide +kernel
  intro c
  rw [e, List.mem_map]
  unfold letter
  simp only [List.mem_range, Bool.and_eq_true, decide_eq_true_eq]
  constructor
  · rintro ⟨i, hi, rfl⟩
    omega
  · rintro ⟨h1, h2⟩
    exact ⟨c - 97, by omega, by omega⟩
/-- one sign, or none -/
def sgn1 (l : List Nat) : Str := ⟨(l.take 1).toArray⟩
theorem sgn1_is (l : List Nat) (c : Nat) : sgn1 l = (⟨#[c]⟩ : Str) ↔ ∃ t, l = c :: t := by
  cases l with
  | nil =>
    constructor
    · intro h
      have := congrArg (fun z : Str => z.cps.toList) h
      simp [sgn1] at this
    · rintro ⟨t, h⟩
      cases h
  | cons a t =>
    constructor
    · intro h
      have := congrArg (fun z : Str => z.cps.toList) h
      simp [sgn1] at this
      exact ⟨t, by rw [this]⟩
    · rintro ⟨t2, h⟩
      cases h
      rfl
theorem sgn1_nil (l : List Nat) : sgn1 l = ("" : Str) ↔ l = [] := by
  cases l with
  | nil => exact ⟨fun _ => rfl, fun _ => rfl⟩
  | cons a t =>
    constructor
    · intro h
      have := congrArg (fun z : Str => z.cps.toList) h
      have : [a] = [] := this
      cases this
    · intro h
      cases h
theorem drop_take (l : List Nat) : l.drop (l.takeWhile letter).length = l.dropWhile letter := by
  induction l with
  | nil => rfl
  | cons a l ih =>
    by_cases h : letter a = true
    · rw [List.takeWhile_cons, if_pos h, List.dropWhile_cons, if_pos h]
      exact ih
    · rw [List.takeWhile_cons, if_neg h, List.dropWhile_cons, if_neg h]
      rfl
section
variable {P : Program} {w : World} {K : PySem.W.Frag} {mg : Str → Option Value} {base : Heap}
def spNe : Sp := fun vs H Q _ => ∃ (x : Str) (i : Nat), vs = [.str x, .int i] ∧ x.length ≤ 1000 ∧ i ≤ x.length ∧ Q (.int ((i + ((x.cps.toList.drop i).takeWhile letter).length : Nat) : Int)) H
theorem ok_ne (T : Tx K mg) : FnOk P w K mg base CX0 1 T.a_law_name_end T.d_law_name_end ["text", "at"] spNe := by
  have nd := sc__law_name_end.nd
  refine T.f_law_name_end.ok sc__law_name_end (fun vs H Q E h => ?_) (fun cdv A outer s H vs Q E hr h => ?_)
  · obtain ⟨x, i, rfl, _⟩ := h
    rfl
  · obtain ⟨x, i, rfl, hx, hi, q⟩ := h
    refine ⟨_, (pss_cons (ps_set (i := 2) nd rfl (.inl rfl) (pv 1))
      (pss_cons (ps_while PassesOwn.never (PW.pt (pw_and (pt_cmpR op_ne (pe_slice sl_str (pv 0) (po_some (pv 2)) (po_some (pe_op op_add (pv 2) pe_int))) pe_str (nomark _)) (pw_and1 (pt_cmpR op_in_sign (pe_ix ix_str (pv 0) (pv 2) (fun _ _ => rfl)) pe_str (by rfl))))) (pss_one (ps_set (i := 2) nd rfl (.inl rfl) (pe_op op_add (pv 2) pe_int))))
      (pss_one (ps_ret (pv 2))))), ?_⟩
    have big : x.length ≤ sizeLine := Nat.le_trans hx (by decide)
    have lx : x.length = x.cps.toList.length := (Array.length_toList ..).symm
    refine ⟨_, rfl, fun m σ H' => H' = H ∧ ∃ e : Nat, σ = [some (.str x), some (.int i), some (.int e)] ∧ e ≤ x.length ∧ m = x.length - e ∧ i + ((x.cps.toList.drop i).takeWhile letter).length = e + ((x.cps.toList.drop e).takeWhile letter).length, ⟨_, rfl, i, rfl, hi, rfl, rfl⟩, ?_⟩
    · rintro m σ H' ⟨rfl, e, rfl, he, rfl, inv⟩
      refine ⟨_, rfl, _, rfl, _, rfl, _, rfl, _, _, rfl, rfl, _, rfl, x, rfl, big, ?_⟩
      rw [cutS_one, show (⟨((x.cps.toList.drop e).take 1).toArray⟩ : Str) = sgn1 (x.cps.toList.drop e) from rfl]
      cases k : x.cps.toList.drop e with
      | nil =>
        refine ⟨rfl, _, rfl, ?_⟩
        rw [show (!decide (V.str (sgn1 []) = V.str "")) = false from rfl]
        refine iteF (iteF ⟨_, rfl, ?_⟩)
        rw [inv, k] at q
        exact q
      | cons c t =>
        refine ⟨rfl, _, rfl, ?_⟩
        have ne : V.str (sgn1 (c :: t)) ≠ V.str "" := fun z => nomatch (sgn1_nil (c :: t)).mp (V.str.inj z)
        rw [show (!decide (V.str (sgn1 (c :: t)) = V.str "")) = true by rw [decide_eq_false ne]; rfl]
        have lt : e < x.cps.toList.length := by
          apply Classical.byContradiction
          intro z
          rw [List.drop_eq_nil_of_le (by omega)] at k
          cases k
        have ec : x.cps.toList[e]? = some c := by
          have := List.getElem?_drop (xs := x.cps.toList) (i := e) (j := 0)
          rw [k] at this
          simpa using this.symm
        have et : x.cps.toList.drop (e + 1) = t := by
          have := List.drop_drop (i := 1) (j := e) (l := x.cps.toList)
          rw [k] at this
          exact this.symm
        refine iteT ⟨_, rfl, _, rfl, x, e, c, rfl, rfl, big, atI_nat ec, c, _, rfl, rfl, _, rfl, ?_⟩
        by_cases hl : letter c = true
        · rw [decide_eq_true ((letters_list c).mpr hl)]
          refine iteT ⟨fun σ' H2 => H2 = H' ∧ σ' = [some (.str x), some (.int i), some (.int ((e + 1 : Nat) : Int))], fun σ' H2 z => ?_, _, rfl, _, _, rfl, rfl, rfl, rfl⟩
          obtain ⟨rfl, rfl⟩ := z
          refine ⟨x.length - (e + 1), by omega, rfl, e + 1, rfl, by omega, rfl, ?_⟩
          rw [inv, k, et, List.takeWhile_cons, if_pos hl, List.length_cons]
          omega
        · rw [decide_eq_false (fun z => hl ((letters_list c).mp z))]
          refine iteF ⟨_, rfl, ?_⟩
          rw [inv, k, List.takeWhile_cons, if_neg hl] at q
          exact q
end
end K04
/-! The law's own reader, within brackets. -/
namespace K04
open PySem PySem.Spec PyProof.Rows L2 Kx
theorem drop_head {l t : List Nat} {e c : Nat} (k : l.drop e = c :: t) : e < l.length ∧ l[e]? = some c ∧ l.drop (e + 1) = t := by
  have lt : e < l.length := by
    apply Classical.byContradiction
    intro z
    rw [List.drop_eq_nil_of_le (by omega)] at k
    cases k
  refine ⟨lt, ?_, ?_⟩
  · have := List.getElem?_drop (xs := l) (i := e) (j := 0)
    rw [k] at this
    simpa using this.symm
  · have := List.drop_drop (i := 1) (j := e) (l := l)
    rw [k] at this
    exact this.symm
section
variable {P : Program} {w : World} {K : PySem.W.Frag} {mg : Str → Option Value} {base : Heap}
def spRead (K : PySem.W.Frag) (n : Nat) : Sp := fun vs H Q _ => ∃ (x : Str) (i : Nat), vs = [.str x, .int i] ∧ x.length ≤ 1000 ∧ i ≤ x.length ∧ x.length < i + 2 * n ∧
  (Res (x.cps.toList.drop i) none → ∀ p H', Same H H' → H' p = some (.tup [.non, .int 0]) → Q (.ref p) H') ∧
  ∀ d r, Res (x.cps.toList.drop i) (some (d, r)) → ∀ v (e : Nat) p H', Same H H' → H' p = some (.tup [v, .int e]) → Dx K H' v d → e ≤ x.length → x.cps.toList.drop e = r → Q (.ref p) H'
theorem ok_read (T : Tx K mg) : ∀ n, FnOk P w K mg base CX0 (n + 2) T.a_law_read_at T.d_law_read_at ["text", "at"] (spRead K n)
  | 0 => by
    refine T.f_law_read_at.ok sc__law_read_at (fun vs H Q E h => ?_) (fun cdv A outer s H vs Q E hr h => ?_)
    · obtain ⟨x, i, rfl, _⟩ := h
      rfl
    · exfalso
      obtain ⟨x, i, rfl, _, h1, h2, _⟩ := h
      omega
  | n + 1 => by
    have nd := sc__law_read_at.nd
    have G := ok_read T n
    have G1 := ok_ne (P := P) (w := w) (base := base) T
    refine T.f_law_read_at.ok sc__law_read_at (fun vs H Q E h => ?_) (fun cdv A outer s H vs Q E hr h => ?_)
    · obtain ⟨x, i, rfl, _⟩ := h
      rfl
    · obtain ⟨x, i, rfl, hx, hi, hn, q0, q1⟩ := h
      refine ⟨_, (pss_cons (ps_par (i := 2) (j := 3) (by rfl) nd rfl rfl (by decide) rfl rfl (pa_cons (pe_call G1 (hr.mono (by omega)) (by rfl) T.g_law_name_end T.f_law_name_end.kp T.n_law_name_end .nil pass0 (pa_cons (pv 0) (pa_cons (pv 1) pa_nil))) (pa_cons (pe_lst pa_nil) pa_nil)) (by rfl))
      (pss_cons (ps_set (i := 4) nd rfl (.inl rfl) (pe_slice sl_str (pv 0) (po_some (pv 1)) (po_some (pv 2))))
      (pss_cons (ps_if (pt_not (pt_chain op_le op_le pe_int (pe_callB call_len_str (by rfl) T.b_len (by decide +kernel) (pa_cons (pv 4) pa_nil)) pe_int)) (pss_one (ps_ret (pe_tup (pa_cons pe_non (pa_cons pe_int pa_nil))))) pss_nil)
      (pss_cons (ps_if (pt_cmpR op_ne (pe_slice sl_str (pv 0) (po_some (pv 2)) (po_some (pe_op op_add (pv 2) pe_int))) pe_str (nomark _)) (pss_one (ps_ret (pe_tup (pa_cons (pe_tup (pa_cons (pv 4) pa_nil)) (pa_cons (pv 2) pa_nil))))) pss_nil)
      (pss_cons (ps_while PassesOwn.never (PW.pt (pw_or (pt_cmpR (op_eqNil hr.units) (pv 3) (pe_lst pa_nil) (nomark _)) (pw_or1 (pt_cmpR op_eq (pe_slice sl_str (pv 0) (po_some (pv 2)) (po_some (pe_op op_add (pv 2) pe_int))) pe_str (nomark _))))) (pss_cons (ps_asg (pe_call G (hr.mono (by omega)) (by rfl) T.g_law_read_at T.f_law_read_at.kp T.n_law_read_at .nil pass0 (pa_cons (pv 0) (pa_cons (pe_op op_add (pv 2) pe_int) pa_nil))) (pg_tup rfl (pgs_cons (pg_name (i := 5) nd rfl (.inl rfl)) (pgs_cons (pg_name (i := 2) nd rfl (.inl rfl)) pgs_nil))))
      (pss_cons (ps_if (PW.pt (pw_or (pt_cmpR op_isN (pv 5) pe_non (nomark _)) (pw_or1 (pt_cmpR op_gt (pe_callB call_len_seq (by rfl) T.b_len (by decide +kernel) (pa_cons (pv 3) pa_nil)) pe_int (nomark _))))) (pss_one (ps_ret (pe_tup (pa_cons pe_non (pa_cons pe_int pa_nil))))) pss_nil)
      (pss_one (ps_expr (pe_bm PySem.F.plainAttrs_list PySem.F.slot_list_append PySem.F.type_list_append mt_append (pv 3) (pa_cons (pv 5) pa_nil)))))))
      (pss_cons (ps_if (pt_cmpR op_ne (pe_slice sl_str (pv 0) (po_some (pv 2)) (po_some (pe_op op_add (pv 2) pe_int))) pe_str (nomark _)) (pss_one (ps_ret (pe_tup (pa_cons pe_non (pa_cons pe_int pa_nil))))) pss_nil)
      (pss_one (ps_ret (pe_tup (pa_cons (pe_op op_catA (pe_tup (pa_cons (pv 4) pa_nil)) (pe_callTy call_tuple_of (by rfl) T.b_tuple (by decide +kernel) (pa_cons (pv 3) pa_nil))) (pa_cons (pe_op op_add (pv 2) pe_int) pa_nil))))))))))), ?_⟩
      have big : x.length ≤ sizeLine := Nat.le_trans hx (by decide)
      have lx : x.length = x.cps.toList.length := (Array.length_toList ..).symm
      refine ⟨_, rfl, _, rfl, x, i, rfl, hx, hi, Nat.zero_le _, fun pl npl => ⟨_, _, rfl, ?_⟩⟩
      obtain ⟨l, el⟩ : ∃ l, l = x.cps.toList := ⟨_, rfl⟩
      obtain ⟨s, es⟩ : ∃ s, s = l.drop i := ⟨_, rfl⟩
      rw [← el, ← es] at q0 q1 ⊢
      obtain ⟨E0, eE⟩ : ∃ E0, E0 = i + (s.takeWhile letter).length := ⟨_, rfl⟩
      rw [← eE]
      have ltw : (s.takeWhile letter).length ≤ s.length := (List.takeWhile_sublist _).length_le
      have lsd : s.length = l.length - i := by rw [es, List.length_drop]
      have hE : E0 ≤ x.length := by
        rw [lx, ← el]
        rw [lx, ← el] at hi
        omega
      have dE : l.drop E0 = s.dropWhile letter := by
        rw [eE, ← List.drop_drop, ← es, drop_take]
      have sm0 : Same H (upd H pl (.lst [])) := same_put npl
      have ep0 : (upd H pl (.lst [])) pl = some (.lst []) := upd_same
      generalize upd H pl (.lst []) = H1 at sm0 ep0 ⊢
      -- the word
      refine ⟨_, rfl, _, rfl, _, rfl, _, rfl, _, rfl, x, rfl, big, ?_⟩
      rw [cutS_nat]
      have ew : (⟨((x.cps.toList.drop i).take (E0 - i)).toArray⟩ : Str) = nmOf s := by
        rw [← el, ← es]
        unfold nmOf tS
        congr 2
        rw [show E0 - i = (s.takeWhile letter).length by omega]
        conv => lhs; arg 2; rw [← split_back s]
        rw [List.take_left']
        rfl
      rw [ew]
      have none_ : ∀ (σ : L2.St) (H' : Hp), Same H H' → Res s none → tRet (tTup (tCons (tC .non) (tCons (tC (.int 0)) tNil))) { nx := fun _ H' => Q .non H', rt := Q } σ H' := fun σ H' sm r =>
        ⟨(by show 2 ≤ sizeLine; decide), fun p np => q0 r p _ (sm.trans (same_put np)) upd_same⟩
      have none2 : ∀ (D : Ends) (σ : L2.St) (H' : Hp), D.rt = Q → Same H H' → Res s none → tRet (tTup (tCons (tC .non) (tCons (tC (.int 0)) tNil))) D σ H' := fun D σ H' eD sm r =>
        ⟨(by show 2 ≤ sizeLine; decide), fun p np => by
          rw [eD]
          exact q0 r p _ (sm.trans (same_put np)) upd_same⟩
      have lw : (nmOf s).length = (s.takeWhile letter).length := by
        show (nmOf s).cps.size = _
        rw [← Array.length_toList, nmOf_tl]
      have lb : (nmOf s).length ≤ sizeLine := by
        rw [lw]
        exact Nat.le_trans (show _ ≤ 1000 by omega) (by decide)
      by_cases good : isNm (nmOf s) = true
      case neg =>
        have bad := res_bad (s := s) (by simpa using good)
        refine ⟨_, rfl, nmOf s, rfl, lb, 1, _, rfl, rfl, _, rfl, ite2 (fun h1 => ?_) (fun h1 => ⟨_, rfl, iteT (none_ _ _ sm0 bad)⟩)⟩
        refine ⟨_, 8, rfl, rfl, _, rfl, ?_⟩
        have h8 : ¬ ((nmOf s).length : Int) ≤ 8 := fun h8 => good ((nmOf_iff s).mpr ⟨by have := of_decide_eq_true h1; omega, by omega⟩)
        rw [decide_eq_false h8]
        exact iteT (none_ _ _ sm0 bad)
      case pos =>
      obtain ⟨g1, g8⟩ := (nmOf_iff s).mp good
      refine ⟨_, rfl, nmOf s, rfl, lb, 1, _, rfl, rfl, _, rfl, ?_⟩
      rw [if_pos (decide_eq_true (show (1 : Int) ≤ ((nmOf s).length : Int) by omega))]
      refine ⟨_, 8, rfl, rfl, _, rfl, ?_⟩
      rw [decide_eq_true (show ((nmOf s).length : Int) ≤ 8 by omega)]
      refine iteF ?_
      -- the sign behind it
      refine ⟨_, rfl, _, rfl, _, rfl, _, rfl, _, _, rfl, rfl, _, rfl, x, rfl, big, ?_⟩
      rw [cutS_one, show (⟨((x.cps.toList.drop E0).take 1).toArray⟩ : Str) = sgn1 (l.drop E0) by rw [el]; rfl]
      by_cases k : ∃ t, l.drop E0 = 40 :: t
      case neg =>
        have ne : V.str (sgn1 (l.drop E0)) ≠ V.str "(" := fun z => k ((sgn1_is _ 40).mp (V.str.inj z))
        refine ⟨rfl, _, rfl, ?_⟩
        rw [show (!decide (V.str (sgn1 (l.drop E0)) = V.str "(")) = true by rw [decide_eq_false ne]; rfl]
        have r := res_cell good (fun t z => k ⟨t, by rw [dE, z]⟩)
        refine iteT ⟨_, rfl, (by show 1 ≤ sizeLine; decide), fun p np => ⟨_, rfl, (by show 2 ≤ sizeLine; decide), fun p2 np2 => ?_⟩⟩
        have s1 := same_put (o := .tup [.str (nmOf s)]) np
        have s2 := same_put (o := .tup [.ref p, .int (E0 : Int)]) np2
        exact q1 _ _ r _ E0 p2 _ (sm0.trans (s1.trans s2)) upd_same (.tup (s2 _ _ upd_same) (.cons (.str _) .nil)) hE dE
      case pos =>
      obtain ⟨t0, k⟩ := k
      refine ⟨rfl, _, rfl, ?_⟩
      rw [show (!decide (V.str (sgn1 (l.drop E0)) = V.str "(")) = false by rw [decide_eq_true (by rw [k]; rfl)]; rfl]
      refine iteF ⟨fun m σ H2 => ∃ (e : Nat) (y : Option V) (vs : List V) (ds : List PyData), σ = [some (.str x), some (.int i), some (.int e), some (.ref pl), some (.str (nmOf s)), y] ∧ m = x.length - e ∧ e ≤ x.length ∧ i + 1 ≤ e ∧ Same H H2 ∧ H2 pl = some (.lst vs) ∧ DxAll K H2 vs ds ∧ Pre s (l.drop e) ds ∧ (ds = [] → ∃ t, l.drop e = 40 :: t),
        ⟨_, E0, none, [], [], rfl, rfl, hE, by omega, sm0, ep0, .nil, by rw [dE]; exact pre0 s, fun _ => ⟨t0, k⟩⟩, ?_⟩
      rintro m σ H2 ⟨e, y, vs, ds, rfl, rfl, he, hie, sm, ep, dx, pre, fst⟩
      have ln := dx.length
      have l3 := pre.len
      have test : ∀ (R : Bool → Hp → Prop), (∀ H3 t, Same H2 H3 → l.drop e = sg ds :: t → R true H3) → (∀ H3, Same H2 H3 → ds ≠ [] → (∀ t, l.drop e ≠ 44 :: t) → R false H3) →
          tOr (tTest (tOp (rNilL K fun b => b) (tVar 3) (tLst tNil))) (tTest (tOp rEq (tSl rSlS (tVar 0) (tPart (tVar 2)) (tPart (tOp (rI0 fun i j => .int (i + j)) (tVar 2) (tC (.int 1))))) (tC (.str ","))))
            [some (.str x), some (.int i), some (.int e), some (.ref pl), some (.str (nmOf s)), y] H2 R := by
        intro R r1 r2
        refine ⟨_, rfl, Nat.zero_le _, fun pn npn => ⟨pl, pn, vs, rfl, rfl, .inl (.inl (same_put npn _ _ ep)), .inl (.inl upd_same), _, rfl, ?_⟩⟩
        have sn := same_put (o := .lst []) npn
        cases dx with
        | nil =>
          obtain ⟨t, k⟩ := fst rfl
          exact iteT (r1 _ t sn k)
        | @cons v0 vr d0 dr h0 hr0 =>
          refine iteF ⟨_, rfl, _, rfl, _, rfl, _, rfl, _, _, rfl, rfl, _, rfl, x, rfl, big, ?_⟩
          rw [cutS_one, show (⟨((x.cps.toList.drop e).take 1).toArray⟩ : Str) = sgn1 (l.drop e) by rw [el]; rfl]
          refine ⟨rfl, _, rfl, ?_⟩
          by_cases k2 : ∃ t, l.drop e = 44 :: t
          · obtain ⟨t, k2⟩ := k2
            rw [decide_eq_true (show V.str (sgn1 (l.drop e)) = V.str "," by rw [k2]; rfl)]
            exact r1 _ t sn k2
          · rw [decide_eq_false (show V.str (sgn1 (l.drop e)) ≠ V.str "," from fun z => k2 ((sgn1_is _ 44).mp (V.str.inj z)))]
            exact r2 _ sn (fun z => nomatch z) fun t z => k2 ⟨t, z⟩
      refine test _ (fun H3 t s3 k2 => ?_) (fun H3 s3 nds k2 => ?_)
      · -- one more
        have sm3 := sm.trans s3
        have ep3 := s3 _ _ ep
        have dx3 := dx.up s3
        rw [k2] at pre
        obtain ⟨ltl, _, de1⟩ := drop_head k2
        rw [← el] at lx
        refine iteT ⟨fun σ' H' => ∃ (e' : Nat) (v' : V) (vs' : List V) (ds' : List PyData), σ' = [some (.str x), some (.int i), some (.int e'), some (.ref pl), some (.str (nmOf s)), some v'] ∧ e < e' ∧ e' ≤ x.length ∧ Same H H' ∧ H' pl = some (.lst vs') ∧ DxAll K H' vs' ds' ∧ Pre s (l.drop e') ds' ∧ ds' ≠ [], fun σ' H' z => ?_, ?_⟩
        · obtain ⟨e', v', vs', ds', rfl, z1, z2, z3, z4, z5, z6, z7⟩ := z
          exact ⟨x.length - e', by omega, e', _, vs', ds', rfl, rfl, z2, by omega, z3, z4, z5, z6, fun z => absurd z z7⟩
        refine ⟨_, rfl, _, rfl, _, _, rfl, rfl, x, e + 1, rfl, hx, by omega, by omega, fun r p H4 s4 e4 => ?_, fun d r res v e2 p H4 s4 e4 dv he2 de2 => ?_⟩
        · rw [← el, de1] at r
          refine ⟨p, _, rfl, SqT.of e4, rfl, _, _, rfl, _, _, rfl, rfl, ⟨_, rfl, rfl, _, rfl, iteT (iteT (none2 _ _ _ rfl (sm3.trans s4) (pre_none pre r)))⟩⟩
        · rw [← el, de1] at res
          rw [← el] at de2
          obtain ⟨b, rfl⟩ : ∃ b, v = .ref b := by
            obtain ⟨_, _, rfl, _⟩ := formed_shape res.1
            cases dv
            exact ⟨_, rfl⟩
          have ep4 := s4 _ _ ep3
          have dx4 := dx3.up s4
          refine ⟨p, _, rfl, SqT.of e4, rfl, _, _, rfl, _, _, rfl, rfl, ⟨_, rfl, rfl, _, rfl, iteF ⟨_, rfl, pl, _, rfl, .inl (.inl (.inl ep4)), _, 2, rfl, rfl, _, rfl, ?_⟩⟩⟩
          by_cases l2 : 2 < vs.length
          · rw [decide_eq_true (show (2 : Int) < (vs.length : Int) by omega)]
            exact iteT (none2 _ _ _ rfl (sm3.trans s4) (pre_many pre (by omega)))
          · rw [decide_eq_false (show ¬ (2 : Int) < (vs.length : Int) by omega)]
            refine iteF ⟨_, rfl, .inl ⟨rfl, _, .inl (.inl ep4)⟩, _, rfl, pl, vs, .ref b, rfl, rfl, ep4, small1000 (by omega), e2, _, vs ++ [.ref b], ds ++ [d], rfl, ?_, he2, fun a o ho => ?_, upd_same, ?_, ?_, by simp⟩
            · have ly := res.2.1
              have : l.drop e2 = r := de2
              have l1 := congrArg List.length (show t = tx d ++ r from ly)
              rw [← this, ← de1, List.length_append, List.length_drop, List.length_drop] at l1
              have pos : 1 ≤ (tx d).length := by
                obtain ⟨z, zs, rfl, _, hz, _⟩ := formed_shape res.1
                have := (isNm_iff.mp hz).1
                show 1 ≤ (z.cps.toList ++ txA zs).length
                rw [List.length_append]
                omega
              omega
            · rw [upd_ne (ne_of_none ho npl)]
              exact s4 _ _ (sm3 _ _ ho)
            · exact DxAll.append (DxAll.ts (Tups.lst ep4) _ _ (pure_formedAll _ pre.fm) dx4) (.cons (Dx.ts (Tups.lst ep4) _ _ (pure_formed _ res.1) dv) .nil)
            · rw [de2]
              exact pre_more pre res (by omega)
      · -- the end
        have sm3 := sm.trans s3
        have ep3 := s3 _ _ ep
        have dx3 := dx.up s3
        refine iteF ⟨_, rfl, _, rfl, _, rfl, _, rfl, _, _, rfl, rfl, _, rfl, x, rfl, big, ?_⟩
        rw [cutS_one, show (⟨((x.cps.toList.drop e).take 1).toArray⟩ : Str) = sgn1 (l.drop e) by rw [el]; rfl]
        refine ⟨rfl, _, rfl, ?_⟩
        by_cases k3 : ∃ t, l.drop e = 41 :: t
        case neg =>
          rw [decide_eq_false (show V.str (sgn1 (l.drop e)) ≠ V.str ")" from fun z => k3 ((sgn1_is _ 41).mp (V.str.inj z)))]
          exact iteT (none_ _ _ sm3 (pre_end pre nds k2 fun t z => k3 ⟨t, z⟩))
        case pos =>
        obtain ⟨t, k3⟩ := k3
        rw [decide_eq_true (show V.str (sgn1 (l.drop e)) = V.str ")" by rw [k3]; rfl)]
        obtain ⟨ltl, _, de1⟩ := drop_head k3
        rw [← el] at lx
        rw [k3] at pre
        have res := pre_done good pre nds
        refine iteF ⟨_, rfl, (by show 1 ≤ sizeLine; decide), fun p np => ⟨_, rfl, pl, vs, rfl, .inl ⟨.inl (.inl (same_put np _ _ ep3)), fun p2 np2 => ?_⟩⟩⟩
        have s5 := same_put (o := .tup [.str (nmOf s)]) np
        have s6 := same_put (o := .tup vs) np2
        have s56 := s5.trans s6
        refine ⟨p, p2, _, _, rfl, rfl, SqT.of (s6 _ _ upd_same), SqT.of upd_same, Nat.le_trans (show 1 + vs.length ≤ 4 by omega) (by decide), fun z => (nomatch z), fun _ z => ?_, fun _ _ p3 np3 => ⟨_, rfl, _, _, rfl, rfl, (by show 2 ≤ sizeLine; decide), fun p4 np4 => ?_⟩⟩
        · subst z
          have : ds.length = 0 := by rw [← ln]; rfl
          exact absurd (List.eq_nil_of_length_eq_zero this) nds
        have s7 := same_put (o := .tup ([.str (nmOf s)] ++ vs)) np3
        have s8 := same_put (o := .tup [.ref p3, .int ((e : Int) + 1)]) np4
        exact q1 _ _ res _ (e + 1) p4 _ (sm3.trans (s56.trans (s7.trans s8))) upd_same (.tup (s8 _ _ upd_same) (.cons (.str _) (dx3.up (s56.trans (s7.trans s8))))) (by omega) de1
end
end K04
/-! Sizes. -/
namespace Kx
open PySem PySem.Spec PyProof.Rows L2
section
variable {X : Cx}
/-- == and != of data, deep ones -/
def rEqF (K : PySem.W.Frag) : R2 := fun x y H Q => ∃ d e, Dp K H x d ∧ Dp K H y e ∧ d.canLay0 = true ∧ e.canLay0 = true ∧ d.depth ≤ 190 ∧ Q (.bl (PyData.eqv d e)) H
def rNeF (K : PySem.W.Frag) : R2 := fun x y H Q => ∃ d e, Dp K H x d ∧ Dp K H y e ∧ d.canLay0 = true ∧ e.canLay0 = true ∧ d.depth ≤ 190 ∧ Q (.bl (!PyData.eqv d e)) H
theorem op_eqF (hu : X.A.units + 200 < cLine) : OpR X (compareOp .Eq) (rEqF X.K) := by
  intro pins s σ H x y v u Q I rx ry h
  obtain ⟨d, e, hd, he, sd, se, z, q⟩ := h
  obtain ⟨as, r1⟩ := Dp.reads I d x v hd rx
  obtain ⟨bs, r2⟩ := Dp.reads I e y u he ry
  exact SeqAt.compareEq_reads r1 r2 sd se (by have := Nat.min_le_left d.depth e.depth; omega) ⟨.bl _, H, I, rfl, q⟩
theorem op_neF (hu : X.A.units + 200 < cLine) : OpR X (compareOp .NotEq) (rNeF X.K) := by
  intro pins s σ H x y v u Q I rx ry h
  obtain ⟨d, e, hd, he, sd, se, z, q⟩ := h
  obtain ⟨as, r1⟩ := Dp.reads I d x v hd rx
  obtain ⟨bs, r2⟩ := Dp.reads I e y u he ry
  exact SeqAt.compareNe_reads r1 r2 sd se (by have := Nat.min_le_left d.depth e.depth; omega) ⟨.bl _, H, I, rfl, q⟩
end
theorem room200 {k : Nat} {A : Around} (r : Room k A) : A.units + 200 < cLine := by
  have := r.un
  omega
end Kx
namespace K04
open PySem PySem.Spec PyProof.Rows L2 Kx
theorem nm_ok {x : Str} (h : isNm x = true) : PyData.strOk x = true ∧ (reprText x).length ≤ 82 ∧ x.length ≤ 8 := by
  simp only [isNm, Bool.and_eq_true, decide_eq_true_eq] at h
  obtain ⟨⟨_, h8⟩, hl⟩ := h
  have each : ∀ c, c ∈ x.cps.toList → c ≤ 122 := fun c hc => by
    have := (Array.all_eq_true'.mp hl) c (Array.mem_toList_iff.mp hc)
    simp only [letter, Bool.and_eq_true, decide_eq_true_eq] at this
    exact this.2
  have r := StrLaws.reprText_len x (fun c hc => Nat.lt_of_le_of_lt (each c hc) (by decide))
  refine ⟨Array.all_eq_true'.mpr fun c hc => ?_, by omega, h8⟩
  have := each c (Array.mem_toList_iff.mpr hc)
  exact decide_eq_true (by omega)
/-- what the layer wants of data -/
structure Plain (d : PyData) : Prop where
  pure : pureD d = true
  short : shortD d = true
  sw : d.showable = true
  lay : d.canLay0 = true
  hd : d.hasDict = false
  nl : noL d = true
structure Plains (ds : List PyData) : Prop where
  pure : pureAll ds = true
  short : shortAll ds = true
  sw : PyData.showableAll ds = true
  lay : PyData.canLayAll0 ds = true
  hd : PyData.hasDictAll ds = false
  nl : noLs ds = true
theorem Plains.cons {d : PyData} {ds : List PyData} (h : Plain d) (t : Plains ds) : Plains (d :: ds) :=
  ⟨by simp [pureAll, h.pure, t.pure], by simp [shortAll, h.short, t.short], by simp [PyData.showableAll, h.sw, t.sw], by simp [PyData.canLayAll0, h.lay, t.lay], by simp [PyData.hasDictAll, h.hd, t.hd], by simp [noLs, h.nl, t.nl]⟩
theorem Plains.tup {ds : List PyData} (t : Plains ds) : Plain (.tuple ds) :=
  ⟨by simp [pureD, t.pure], by simp [shortD, t.short], by simp [PyData.showable, t.sw], by simp [PyData.canLay0, t.lay], by simp [PyData.hasDict, t.hd], by simp [noL, t.nl]⟩
theorem plain_name {d : PyData} (h : nameD d = true) : Plain d := by
  cases d with
  | str x =>
    have n := nm_ok (x := x) h
    exact ⟨rfl, by simp [shortD]; omega, rfl, by simp [PyData.canLay0, n.1], rfl, rfl⟩
  | _ => cases h
mutual
theorem plain_formed : ∀ d : PyData, formedD d = true → Plain d
  | .none, h => by cases h
  | .bool _, h => by cases h
  | .int _, h => by cases h
  | .str _, h => by cases h
  | .list _, h => by cases h
  | .dict _, h => by cases h
  | .tuple [], h => by cases h
  | .tuple (d :: ds), h => by
    simp only [formedD, Bool.and_eq_true] at h
    exact (Plains.cons (plain_name h.1.2) (plains_formed ds h.2)).tup
theorem plains_formed : ∀ ds : List PyData, formedAll ds = true → Plains ds
  | [], _ => ⟨rfl, rfl, rfl, rfl, rfl, rfl⟩
  | d :: ds, h => by
    simp only [formedAll, Bool.and_eq_true] at h
    exact Plains.cons (plain_formed d h.1) (plains_formed ds h.2)
end
/-- brackets opened and commas -/
def sc (l : List Nat) : Nat := l.countP fun c => decide (c = 40) || decide (c = 44)
theorem sc_app (a b : List Nat) : sc (a ++ b) = sc a + sc b := List.countP_append
theorem sc_name {x : Str} (h : isNm x = true) : sc x.cps.toList = 0 := by
  refine List.countP_eq_zero.mpr fun c hc => ?_
  have := (isNm_iff.mp h).2.2 c hc
  simp only [letter, Bool.and_eq_true, decide_eq_true_eq] at this
  simp
  omega
mutual
theorem rows_tx : ∀ (d : PyData), formedD d = true → (rowsD d).length = 1 + sc (tx d)
  | .none, h => by cases h
  | .bool _, h => by cases h
  | .int _, h => by cases h
  | .str _, h => by cases h
  | .list _, h => by cases h
  | .dict _, h => by cases h
  | .tuple [], h => by cases h
  | .tuple (d :: ds), h => by
    simp only [formedD, Bool.and_eq_true] at h
    cases d with
    | str x =>
      have e : tx (.tuple (.str x :: ds)) = x.cps.toList ++ txA ds := rfl
      rw [e, sc_app, sc_name h.1.2, rowsD, List.length_cons, rowsA_tx ds h.2]
      omega
    | _ => cases h.1.2
theorem rowsA_tx : ∀ (ds : List PyData), formedAll ds = true → (rowsAll ds).length = sc (txA ds)
  | [], _ => rfl
  | e :: es, h => by
    rw [formedAll, Bool.and_eq_true] at h
    have e1 : txA (e :: es) = [40] ++ (tx e ++ (txM es ++ [41])) := rfl
    rw [e1, sc_app, sc_app, sc_app, rowsAll, List.length_append, rows_tx e h.1, rowsM_tx es h.2, show sc [40] = 1 from rfl, show sc [41] = 0 from rfl]
    omega
theorem rowsM_tx : ∀ (ds : List PyData), formedAll ds = true → (rowsAll ds).length = sc (txM ds)
  | [], _ => rfl
  | e :: es, h => by
    rw [formedAll, Bool.and_eq_true] at h
    have e1 : txM (e :: es) = [44] ++ (tx e ++ txM es) := rfl
    rw [e1, sc_app, sc_app, rowsAll, List.length_append, rows_tx e h.1, rowsM_tx es h.2, show sc [44] = 1 from rfl]
    omega
end
theorem tx_pos {d : PyData} (h : formedD d = true) : 1 ≤ (tx d).length := by
  obtain ⟨z, zs, rfl, _, hz, _⟩ := formed_shape h
  have := (isNm_iff.mp hz).1
  show 1 ≤ (z.cps.toList ++ txA zs).length
  rw [List.length_append]
  omega
mutual
theorem depth_tx : ∀ (d : PyData), formedD d = true → 3 * d.depth ≤ (tx d).length + 2
  | .none, h => by cases h
  | .bool _, h => by cases h
  | .int _, h => by cases h
  | .str _, h => by cases h
  | .list _, h => by cases h
  | .dict _, h => by cases h
  | .tuple [], h => by cases h
  | .tuple (d :: []), h => by
    simp only [formedD, Bool.and_eq_true] at h
    cases d with
    | str x =>
      have := (isNm_iff.mp h.1.2).1
      have e : tx (.tuple [.str x]) = x.cps.toList ++ [] := rfl
      rw [e, List.append_nil]
      simp only [PyData.depth, PyData.depthAll]
      omega
    | _ => cases h.1.2
  | .tuple (d :: e :: es), h => by
    simp only [formedD, formedAll, Bool.and_eq_true] at h
    cases d with
    | str x =>
      have p1 := (isNm_iff.mp h.1.2).1
      have e1 : tx (.tuple (.str x :: e :: es)) = x.cps.toList ++ (40 :: (tx e ++ (txM es ++ [41]))) := rfl
      have i1 := depth_tx e h.2.1
      have i2 := depthM_tx es h.2.2
      rw [e1, List.length_append, List.length_cons, List.length_append, List.length_append]
      simp only [PyData.depth, PyData.depthAll, List.length_singleton]
      omega
    | _ => cases h.1.2
theorem depthM_tx : ∀ (ds : List PyData), formedAll ds = true → 3 * PyData.depthAll ds ≤ (txM ds).length + 2
  | [], _ => by simp [PyData.depthAll]
  | e :: es, h => by
    rw [formedAll, Bool.and_eq_true] at h
    have i1 := depth_tx e h.1
    have i2 := depthM_tx es h.2
    rw [PyData.depthAll, txM, List.length_cons, List.length_append]
    omega
end
def lnB : Nat → Nat
  | 0 => 0
  | n + 1 => 12 + 3 * lnB n
def rwB : Nat → Nat
  | 0 => 0
  | n + 1 => 1 + 3 * rwB n
theorem txM_le {m : Nat} : ∀ {ds : List PyData}, (∀ d, d ∈ ds → (tx d).length ≤ m) → (txM ds).length ≤ ds.length * (m + 1)
  | [], _ => Nat.zero_le _
  | e :: es, h => by
    have i := txM_le (ds := es) fun d hd => h d (List.mem_cons_of_mem _ hd)
    have j := h e List.mem_cons_self
    rw [txM, List.length_cons, List.length_append, List.length_cons, Nat.add_mul]
    omega
theorem rowsM_le {m : Nat} : ∀ {ds : List PyData}, (∀ d, d ∈ ds → (rowsD d).length ≤ m) → (rowsAll ds).length ≤ ds.length * m
  | [], _ => Nat.zero_le _
  | e :: es, h => by
    have i := rowsM_le (ds := es) fun d hd => h d (List.mem_cons_of_mem _ hd)
    have j := h e List.mem_cons_self
    rw [rowsAll, List.length_append, List.length_cons, Nat.add_mul]
    omega
theorem txA_le (es : List PyData) : (txA es).length ≤ (txM es).length + 1 := by
  cases es with
  | nil => exact Nat.zero_le _
  | cons e es =>
    simp only [txA, txM, List.length_cons, List.length_append]
    simp
    omega
theorem formed_bound : ∀ (n : Nat) (d : PyData), formedD d = true → d.depth ≤ n → (tx d).length ≤ lnB n ∧ (rowsD d).length ≤ rwB n
  | 0, d, h, hd => by
    obtain ⟨x, ds, rfl, _⟩ := formed_shape h
    simp [PyData.depth] at hd
  | n + 1, d, h, hd => by
    obtain ⟨x, ds, rfl, l3, hn, hf⟩ := formed_shape h
    have dd : PyData.depthAll ds ≤ n := by
      simp only [PyData.depth, PyData.depthAll] at hd
      omega
    have each : ∀ e, e ∈ ds → (tx e).length ≤ lnB n ∧ (rowsD e).length ≤ rwB n := fun e he => by
      obtain ⟨i, hi⟩ := List.getElem?_of_mem he
      exact formed_bound n e (formedAll_get hf hi) (Nat.le_trans (depthAll_get hi) dd)
    have h8 := (isNm_iff.mp hn).2.1
    have a1 := txM_le fun e he => (each e he).1
    have a2 := rowsM_le fun e he => (each e he).2
    have a3 := txA_le ds
    have e1 : tx (.tuple (.str x :: ds)) = x.cps.toList ++ txA ds := rfl
    refine ⟨?_, ?_⟩
    · rw [e1, List.length_append]
      show _ ≤ 12 + 3 * lnB n
      have : ds.length * (lnB n + 1) ≤ 3 * (lnB n + 1) := Nat.mul_le_mul_right _ l3
      omega
    · rw [rowsD, List.length_cons]
      show _ ≤ 1 + 3 * rwB n
      have : ds.length * rwB n ≤ 3 * rwB n := Nat.mul_le_mul_right _ l3
      omega
mutual
/-- tuples that begin with texts, all through -/
def treeD : PyData → Bool
  | .tuple (.str _ :: ds) => treeAll ds
  | _ => false
def treeAll : List PyData → Bool
  | [] => true
  | d :: ds => treeD d && treeAll ds
end
theorem treeAll_app (a b : List PyData) : treeAll (a ++ b) = (treeAll a && treeAll b) := by
  induction a with
  | nil => rfl
  | cons x a ih =>
    rw [List.cons_append, treeAll, treeAll, ih, Bool.and_assoc]
theorem treeAll_drop : ∀ {r : List PyData}, treeAll r = true → treeAll r.dropLast = true
  | [], _ => rfl
  | [d], _ => rfl
  | d :: e :: r, h => by
    rw [treeAll, Bool.and_eq_true] at h
    show treeAll (d :: (e :: r).dropLast) = true
    rw [treeAll, h.1, treeAll_drop h.2]
    rfl
theorem tree_step {m m' : PM} {w : Str} (h : ∀ r, r ∈ m.rs → treeAll r = true) (e : pstep m w = some m') : ∀ r, r ∈ m'.rs → treeAll r = true := by
  unfold pstep at e
  split at e
  · split at e
    · cases e
    · split at e
      · rename_i r rs er
        cases e
        rw [er] at h
        intro x hx
        rcases List.mem_cons.mp hx with rfl | hx
        · rw [treeAll_app, h r List.mem_cons_self]
          rfl
        · exact h x (List.mem_cons_of_mem _ hx)
      · cases e
  · split at e
    · split at e
      · split at e
        · rename_i r rs er
          cases e
          rw [er] at h
          intro x hx
          rcases List.mem_cons.mp hx with rfl | hx
          · rfl
          · rcases List.mem_cons.mp hx with rfl | hx
            · exact treeAll_drop (h r List.mem_cons_self)
            · exact h x (List.mem_cons_of_mem _ hx)
        · cases e
      · cases e
    · split at e
      · split at e
        · cases e
        · split at e
          · split at e
            · rename_i r r2 rs er
              cases e
              rw [er] at h
              intro x hx
              rcases List.mem_cons.mp hx with rfl | hx
              · rw [treeAll_app, h r2 (List.mem_cons_of_mem _ List.mem_cons_self)]
                show treeAll [PyData.tuple (.str _ :: r)] = true
                rw [treeAll, treeAll, treeD, h r List.mem_cons_self]
                rfl
              · exact h x (List.mem_cons_of_mem _ (List.mem_cons_of_mem _ hx))
            · cases e
          · cases e
            exact h
      · cases e
theorem tree_run : ∀ (ws : List Str) (m m' : PM), (∀ r, r ∈ m.rs → treeAll r = true) → prun ws m = some m' → ∀ r, r ∈ m'.rs → treeAll r = true
  | [], m, m', h, e => by
    cases e
    exact h
  | w :: ws, m, m', h, e => by
    have e : (pstep m w).bind (prun ws) = some m' := e
    cases k : pstep m w with
    | none =>
      rw [k] at e
      cases e
    | some m2 =>
      rw [k] at e
      exact tree_run ws m2 m' (tree_step h k) e
theorem tree_parse {ws : List Str} {d : PyData} (h : parseD ws = some d) : treeD d = true := by
  unfold parseD at h
  cases e : prun ws pm0 with
  | none =>
    rw [e] at h
    cases h
  | some m =>
    rw [e] at h
    have h : pout m = some d := h
    have t := tree_run ws pm0 m (fun r hr => by rw [List.mem_singleton.mp hr]; rfl) e
    unfold pout at h
    by_cases c : ended m.last = true ∧ m.hs = []
    · rw [if_pos c] at h
      obtain ⟨hs, rs, last⟩ := m
      cases rs with
      | nil => cases h
      | cons r rs =>
        have t := t r List.mem_cons_self
        cases r with
        | nil => cases h
        | cons a r =>
          have h : some a = some d := h
          cases h
          rw [treeAll, Bool.and_eq_true] at t
          exact t.1
    · rw [if_neg c] at h
      cases h
mutual
theorem tree_bound : ∀ (d : PyData), treeD d = true → szD d ≤ 2 * (tx d).length + 2 ∧ ((tx d).length ≤ 1000 → shortD d = true)
  | .none, h => by cases h
  | .bool _, h => by cases h
  | .int _, h => by cases h
  | .str _, h => by cases h
  | .list _, h => by cases h
  | .dict _, h => by cases h
  | .tuple [], h => by cases h
  | .tuple (.str x :: ds), h => by
    have h : treeAll ds = true := h
    have i := treeM_bound ds h
    have a := txA_le ds
    have b := txA_len ds
    have e : (tx (.tuple (.str x :: ds))).length = x.cps.toList.length + (txA ds).length := by
      show (x.cps.toList ++ txA ds).length = _
      rw [List.length_append]
    have lx : x.length = x.cps.toList.length := (Array.length_toList ..).symm
    rw [e]
    refine ⟨?_, fun l => ?_⟩
    · show (1 + szAll ds) + 1 ≤ _
      omega
    · show (decide (x.length ≤ 1000) && shortAll ds) = true
      rw [decide_eq_true (by omega), i.2 (by omega)]
      rfl
  | .tuple (.none :: _), h => by cases h
  | .tuple (.bool _ :: _), h => by cases h
  | .tuple (.int _ :: _), h => by cases h
  | .tuple (.list _ :: _), h => by cases h
  | .tuple (.tuple _ :: _), h => by cases h
  | .tuple (.dict _ :: _), h => by cases h
theorem treeM_bound : ∀ (ds : List PyData), treeAll ds = true → szAll ds ≤ 2 * (txM ds).length ∧ ((txM ds).length ≤ 1000 → shortAll ds = true)
  | [], _ => ⟨Nat.zero_le _, fun _ => rfl⟩
  | e :: es, h => by
    rw [treeAll, Bool.and_eq_true] at h
    have i1 := tree_bound e h.1
    have i2 := treeM_bound es h.2
    rw [txM, List.length_cons, List.length_append]
    refine ⟨?_, fun l => ?_⟩
    · show szD e + szAll es ≤ _
      omega
    · rw [shortAll, i1.2 (by omega), i2.2 (by omega)]
      rfl
end
theorem wd_len : ∀ {l : List (List Nat)}, (∀ w, w ∈ l → Wd w) → l.length ≤ l.flatten.length
  | [], _ => Nat.zero_le _
  | w :: l, h => by
    have i := wd_len (l := l) fun x hx => h x (List.mem_cons_of_mem _ hx)
    have j : 1 ≤ w.length := by
      rcases h w List.mem_cons_self with ⟨c, _, rfl⟩ | ⟨n, _⟩
      · exact Nat.le_refl _
      · cases w with
        | nil => exact absurd rfl n
        | cons a w => simp
    rw [List.length_cons, List.flatten_cons, List.length_append]
    omega
theorem words_len (x : Str) : (wordsOf x).length ≤ x.length := by
  by_cases al : Txt.isalpha (lettersOf x) = true
  · have e := words_A al
    obtain ⟨k1, k2⟩ := wkeep x.cps.toList ([], []) (fun w hw => nomatch hw) (fun c hc => nomatch hc)
    rw [← e] at k1 k2
    have k3 := wd_len k1
    rw [k2] at k3
    have k3 : (cs (wordsOf x)).length ≤ x.cps.toList.length := k3
    rw [List.length_map] at k3
    rwa [Array.length_toList] at k3
  · unfold wordsOf
    rw [if_neg al]
    exact Nat.zero_le _
/-- a term that is no cell, told twice, is no term -/
theorem twice {t d : PyData} (ht : formedD t = true) (n : ∀ x, t ≠ .tuple [.str x]) (hd : formedD d = true) : tx d ≠ tx t ++ tx t := by
  intro e
  have w1 := wtx d [] hd
  rw [e, List.foldl_append] at w1
  -- the first ends with a bracket
  have w2 := wtx t [] ht
  have st : ∃ ws, (tx t).foldl wstepA ([], []) = (ws, []) := by
    obtain ⟨x, ds, rfl, _, _, _⟩ := formed_shape ht
    cases ds with
    | nil => exact absurd rfl (n x)
    | cons a ds =>
      have e1 : tx (.tuple (.str x :: a :: ds)) = (x.cps.toList ++ 40 :: (tx a ++ txM ds)) ++ [41] := by
        show x.cps.toList ++ 40 :: (tx a ++ (txM ds ++ [41])) = _
        simp
      rw [e1, List.foldl_append]
      exact ⟨_, wsign (c := 41) _ (by decide)⟩
  obtain ⟨ws, st⟩ := st
  rw [st] at w1 w2
  have w2 : ws = cs (tk t) := by
    have : TL.wfin (ws, []) = ws := if_pos rfl
    rw [this] at w2
    simpa using w2
  rw [wtx t ws ht, w2] at w1
  have w3 : tk t ++ tk t = tk d := cs_inj (by simpa [cs] using w1)
  have p := parse_all hd
  rw [← w3] at p
  unfold parseD at p
  obtain ⟨l, en, r⟩ := run_tk t [] [] [] "(" ht (by decide)
  have r := r (tk t)
  have r : prun (tk t ++ tk t) pm0 = prun (tk t) ⟨[], ([] ++ [t]) :: [], l⟩ := r
  rw [r] at p
  obtain ⟨x, ds, rfl, _, hn, _⟩ := formed_shape ht
  obtain ⟨rest, k⟩ : ∃ rest, tk (.tuple (.str x :: ds)) = x :: rest := by
    cases ds with
    | nil => exact ⟨_, tk_cell x⟩
    | cons a ds => exact ⟨_, tk_tuple x (by simp)⟩
  rw [k] at p
  have : prun (x :: rest) ⟨[], ([] ++ [PyData.tuple (.str x :: ds)]) :: [], l⟩ = none := by
    show (pstep _ x).bind _ = none
    have : pstep ⟨[], ([] ++ [PyData.tuple (.str x :: ds)]) :: [], l⟩ x = none := by
      unfold pstep
      rw [if_pos (nm_alpha hn), if_pos en]
    rw [this]
    rfl
  rw [this] at p
  cases p
end K04
/-! read_term, what the law is told. -/
namespace K04
open PySem PySem.Spec PyProof.Rows L2 Kx
def toldX : PyData → Option PyData
  | .str y => toldD y
  | _ => none
def optD : Option PyData → PyData
  | none => .none
  | some d => d
section
variable {P : Program} {w : World} {K : PySem.W.Frag} {mg : Str → Option Value} {base : Heap}
def spRt (K : PySem.W.Frag) (C : Addr) : Sp := fun vs H Q E => ∃ (x : V) (d0 : PyData), vs = [x] ∧ Dx K H x d0 ∧ (∀ y, d0 = .str y → y.length ≤ 1000) ∧ (toldX d0 = none → ∀ H', Same H H' → E (.ref C) none H') ∧
  ∀ d, toldX d0 = some d → ∀ v H', Same H H' → Dx K H' v d → Q v H'
theorem ok_rt (T : Tx K mg) : FnOk P w K mg base (L2.CX P w) 6 T.aread_term T.dread_term ["text"] (spRt K T.CParseError) := by
  have nd := sc_read_term.nd
  have G1 := ok_words (P := P) (w := w) (base := base) T
  have G2 := ok_parsed (P := P) (w := w) (base := base) T
  have G3 := ok_term (P := P) (w := w) (base := base) T
  refine T.fread_term.okX sc_read_term (fun vs H Q E h => ?_) (fun cdv A outer s H vs Q E hr h => ?_)
  · obtain ⟨x, d, rfl, _⟩ := h
    rfl
  · obtain ⟨x, d0, rfl, hx, hl, q0, q1⟩ := h
    refine ⟨_, (C8.pss_cut (ps_set (i := 1) nd rfl (.inl rfl) (pe_ifExp (pt_val (pe_callB call_isi (by rfl) T.b_isinstance (by decide +kernel) (pa_cons (pv 0) (pa_cons (pe_bltn (v := .ty "str") (by rfl) T.b_str (by decide +kernel) rfl) pa_nil)))) (pe_call G2 (hr.mono (by omega)) (by rfl) T.gparsed T.fparsed.kp T.nparsed .nil pass0 (pa_cons (pe_call G1 (hr.mono (by omega)) (by rfl) T.gwords_in T.fwords_in.kp T.nwords_in .nil pass0 (pa_cons (pv 0) pa_nil)) pa_nil)) pe_non))
      (pss_cons (ps_if (pt_not (pt_val (pe_call G3 (hr.mono (by omega)) (by rfl) T.gis_term T.fis_term.kp T.nis_term .nil pass0 (pa_cons (pv 1) pa_nil)))) (pss_one (ps_raise rfl (takes_of rfl rfl rfl rfl) (pmk_own PySem.F.excBase_ValueError T.xParseError T.gParseError T.kParseError (raises_own T.bParseError T.tParseError) (by rfl)))) pss_nil)
      (pss_one (ps_ret (pv 1))))), ?_⟩
    refine ⟨fun σ' H' => ∃ (v : V) (d : PyData), σ' = [some x, some v] ∧ Same H H' ∧ Dx K H' v d ∧ shortD d = true ∧ szD d ≤ 100000 ∧ toldX d0 = (if termD d = true then some d else none), ?_, ?_⟩
    · refine ⟨x, rfl, x, .ty "str", _, _, _, rfl, .ty _, hx.ty, kit_ty (kit_str d0), _, rfl, ?_⟩
      cases d0 with
      | str y =>
        cases hx
        have ly := hl y rfl
        refine iteT ⟨_, rfl, y, rfl, ly, fun p np => ⟨p, wordsOf y, rfl, upd_same, Nat.le_trans (words_len y) (by omega), fun e H' sm => ?_, fun d e v H' sm dv => ?_⟩⟩
        · refine ⟨.non, .none, rfl, (same_put np).trans sm, .non, rfl, by decide, ?_⟩
          show toldD y = _
          unfold toldD
          rw [e]
          rfl
        · have et := told_sound e
          have tr := tree_bound d (tree_parse e)
          have lt : (tx d).length ≤ 1000 := by
            have : y.length = (tx d).length := by rw [et, tS_len]
            omega
          refine ⟨v, d, rfl, (same_put np).trans sm, dv, tr.2 lt, by omega, ?_⟩
          show toldD y = _
          unfold toldD
          rw [e]
          rfl
      | _ => exact iteF ⟨.non, .none, rfl, Same.refl H, .non, rfl, by decide, rfl⟩
    · rintro σ' H' ⟨v, d, rfl, sm, dv, sh, sz, et⟩
      refine ⟨_, rfl, v, d, rfl, ⟨dv, sh, sz⟩, fun H2 s2 => ⟨_, rfl, ?_⟩⟩
      cases t : termD d with
      | false =>
        rw [t] at et
        exact iteT (q0 et H2 (sm.trans s2))
      | true =>
        rw [t] at et
        exact iteF ⟨_, rfl, q1 d et v H2 (sm.trans s2) (dv.up s2)⟩
def spTold (K : PySem.W.Frag) : Sp := fun vs H Q _ => ∃ (x : V) (d0 : PyData), vs = [x] ∧ Dx K H x d0 ∧ (∀ y, d0 = .str y → y.length ≤ 1000) ∧ ∀ v H', Same H H' → Dx K H' v (optD (toldX d0)) → Q v H'
theorem ok_told (T : Tx K mg) : FnOk P w K mg base CX0 7 T.a_law_told T.d_law_told ["text"] (spTold K) := by
  have nd := sc__law_told.nd
  have G := ok_rt (P := P) (w := w) (base := base) T
  refine T.f_law_told.ok sc__law_told (fun vs H Q E h => ?_) (fun cdv A outer s H vs Q E hr h => ?_)
  · obtain ⟨x, d, rfl, _⟩ := h
    rfl
  · obtain ⟨x, d0, rfl, hx, hl, q⟩ := h
    refine ⟨_, (pss_one (ps_try_only (tb := fun W => tRet (tCallS (spRt K T.CParseError) (WE W) (tCons (tVar 0) tNil))) (ts := fun _ _ _ => tRet (tC .non)) (Wout := fun _ _ _ _ => False) rfl rfl ⟨rfl, by decide, Or.inl T.gParseError⟩ takes0
      (fun W pn xe tk _ => pss_one (ps_ret (pe_callS G (hr.mono (by omega)) rfl T.gread_term T.fread_term.kp T.nread_term (fun σ => passAt tk σ) (by exact (pa_cons (pv 0) pa_nil)))))
      (fun a oe cls d pn _ _ => pss_one (ps_ret pe_non)))), ?_⟩
    refine ⟨_, rfl, x, d0, rfl, hx, hl, fun e H' sm => ⟨true, T.eParseError, fun _ a ha => ?_, fun z => nomatch z⟩, fun d e v H' sm dv => ?_⟩
    · rw [e] at q
      exact q .non H' sm .non
    · rw [e] at q
      exact q v H' sm dv
end
end K04
/-! The law's own word for texts. -/
namespace K04
open PySem PySem.Spec PyProof.Rows L2 Kx
section
variable {α β : Type} [DecidableEq α] [DecidableEq β]
/-- the different ones -/
def und : List α → List α
  | [] => []
  | x :: l => if x ∈ l then und l else x :: und l
theorem mem_und : ∀ (l : List α) (x : α), x ∈ und l ↔ x ∈ l
  | [], x => by simp [und]
  | y :: l, x => by
    unfold und
    have ih := mem_und l x
    split
    · rename_i h
      rw [ih, List.mem_cons]
      constructor
      · exact .inr
      · rintro (rfl | h2)
        · exact h
        · exact h2
    · rw [List.mem_cons, List.mem_cons, ih]
theorem und_nodup : ∀ l : List α, (und l).Nodup
  | [] => List.nodup_nil
  | y :: l => by
    unfold und
    split
    · exact und_nodup l
    · rename_i h
      exact List.nodup_cons.mpr ⟨fun e => h ((mem_und l y).mp e), und_nodup l⟩
theorem und_len : ∀ l : List α, (und l).length = Kx.cnt l
  | [] => rfl
  | y :: l => by
    unfold und Kx.cnt
    split
    · exact und_len l
    · rw [List.length_cons, und_len l]
theorem cnt_inj {f : α → β} (hf : ∀ a b, f a = f b → a = b) : ∀ l : List α, Kx.cnt (l.map f) = Kx.cnt l
  | [] => rfl
  | y :: l => by
    have e : f y ∈ l.map f ↔ y ∈ l := by
      rw [List.mem_map]
      constructor
      · rintro ⟨a, ha, h⟩
        rw [← hf _ _ h]
        exact ha
      · exact fun h => ⟨y, h, rfl⟩
    rw [List.map_cons]
    unfold Kx.cnt
    simp only [e]
    rw [cnt_inj hf l]
end
theorem cnt_fst_le : ∀ l : List NK, Kx.cnt (l.map Prod.fst) ≤ Kx.cnt l
  | [] => Nat.le_refl _
  | y :: l => by
    have ih := cnt_fst_le l
    rw [List.map_cons]
    unfold Kx.cnt
    by_cases h : y ∈ l
    · have : y.1 ∈ l.map Prod.fst := List.mem_map.mpr ⟨y, h, rfl⟩
      rw [if_pos h, if_pos this]
      exact ih
    · rw [if_neg h]
      split <;> omega
theorem cnt_func : ∀ l : List NK, Kx.cnt l = Kx.cnt (l.map Prod.fst) ↔ Func l
  | [] => by simp [Kx.cnt, Func]
  | y :: l => by
    have ih := cnt_func l
    have le := cnt_fst_le l
    rw [List.map_cons]
    unfold Kx.cnt
    by_cases h : y ∈ l
    · have h2 : y.1 ∈ l.map Prod.fst := List.mem_map.mpr ⟨y, h, rfl⟩
      rw [if_pos h, if_pos h2, ih]
      refine Func.congr fun p => ?_
      rw [List.mem_cons]
      constructor
      · exact .inr
      · rintro (rfl | h3)
        · exact h
        · exact h3
    · rw [if_neg h]
      by_cases h2 : y.1 ∈ l.map Prod.fst
      · rw [if_pos h2]
        constructor
        · intro e
          omega
        · intro f
          exfalso
          obtain ⟨z, hz, e⟩ := List.mem_map.mp h2
          have := f y List.mem_cons_self z (List.mem_cons_of_mem _ hz) e.symm
          refine h ?_
          have : y = z := Prod.ext e.symm this
          rw [this]
          exact hz
      · rw [if_neg h2]
        have e1 : Kx.cnt l + 1 = Kx.cnt (l.map Prod.fst) + 1 ↔ Kx.cnt l = Kx.cnt (l.map Prod.fst) := by omega
        rw [e1, ih]
        constructor
        · intro f p hp q hq e
          rcases List.mem_cons.mp hp with rfl | hp
          · rcases List.mem_cons.mp hq with rfl | hq
            · rfl
            · exact absurd (List.mem_map.mpr ⟨q, hq, e.symm⟩) h2
          · rcases List.mem_cons.mp hq with hq | hq
            · rw [hq] at e
              exact absurd (List.mem_map.mpr ⟨p, hp, e⟩) h2
            · exact f p hp q hq e
        · exact fun f p hp q hq e => f p (List.mem_cons_of_mem _ hp) q (List.mem_cons_of_mem _ hq) e
/-- a name with its places, as a key -/
def rowK (p : NK) : List Key := [.inr p.1, .inl ((p.2 + 1 : Nat) : Int)]
theorem rowK_inj (p q : NK) (h : rowK p = rowK q) : p = q := by
  unfold rowK at h
  injection h with h1 h2
  injection h2 with h2 _
  injection h1 with h1
  injection h2 with h2
  exact Prod.ext h1 (Nat.succ.inj (Int.ofNat.inj h2))
/-- len of a sequence -/
abbrev rLenS (K : PySem.W.Frag) : List V → Hp → VK → Prop := fun xs H Q => ∃ p ys, xs = [.ref p] ∧ (SqL K H p ys ∨ SqT K H p ys) ∧ Q (.int ys.length) H
section
variable {P : Program} {w : World} {K : PySem.W.Frag} {mg : Str → Option Value} {base : Heap}
theorem told_none {x : Str} (h : ∀ d, formedD d = true → x ≠ tS (tx d)) : toldD x = none := by
  cases e : toldD x with
  | none => rfl
  | some d =>
    obtain ⟨h1, h2⟩ := (told_iff x d).mp e
    have f : formedD d = true := by
      simp only [termD, Bool.and_eq_true] at h2
      exact h2.1
    exact absurd h1 (h d f)
theorem list_of {x : Str} {d : PyData} (h : x = tS (tx d)) : x.cps.toList = tx d := by
  rw [h]
  exact List.toList_toArray ..
def spLr (K : PySem.W.Frag) : Sp := fun vs H Q _ => ∃ (x : Str), vs = [.str x] ∧ x.length ≤ 300 ∧ (∀ d, formedD d = true → x = tS (tx d) → (rowsD d).length < 64) ∧ ∀ v H', Same H H' → Dx K H' v (optD (toldD x)) → Q v H'
theorem ok_lr (T : Tx K mg) : FnOk P w K mg base CX0 154 T.a_law_read T.d_law_read ["text"] (spLr K) := by
  have nd := sc__law_read.nd
  have G1 := ok_read (P := P) (w := w) (base := base) T 151
  have G2 := ok_below (P := P) (w := w) (base := base) T 110
  refine T.f_law_read.ok sc__law_read (fun vs H Q E h => ?_) (fun cdv A outer s H vs Q E hr h => ?_)
  · obtain ⟨x, rfl, _⟩ := h
    rfl
  · obtain ⟨x, rfl, hx, few, q⟩ := h
    refine ⟨_, (pss_cons (ps_if (pt_not (pt_val (pe_callB call_isi (by rfl) T.b_isinstance (by decide +kernel) (pa_cons (pv 0) (pa_cons (pe_bltn (v := .ty "str") (by rfl) T.b_str (by decide +kernel) rfl) pa_nil))))) (pss_one (ps_ret pe_non)) pss_nil)
      (pss_cons (ps_asg (pe_call G1 (hr.mono (by omega)) (by rfl) T.g_law_read_at T.f_law_read_at.kp T.n_law_read_at .nil pass0 (pa_cons (pv 0) (pa_cons pe_int pa_nil))) (pg_tup rfl (pgs_cons (pg_name (i := 1) nd rfl (.inl rfl)) (pgs_cons (pg_name (i := 2) nd rfl (.inl rfl)) pgs_nil))))
      (pss_cons (ps_if (PW.pt (pw_or (pt_cmpR op_isN (pv 1) pe_non (nomark _)) (pw_or1 (pt_cmpR op_ne (pv 2) (pe_callB call_len_str (by rfl) T.b_len (by decide +kernel) (pa_cons (pv 0) pa_nil)) (nomark _))))) (pss_one (ps_ret pe_non)) pss_nil)
      (pss_cons (ps_setLc (i := 3) (own := [("part", 4)]) (g := (gName 4)) (tt := tYes) (by rfl) nd rfl rfl (sw_true rfl rfl rfl (by decide +kernel)) (pi_list (pe_call G2 (hr.mono (by omega)) (by rfl) T.g_law_below T.f_law_below.kp T.n_law_below .nil pass0 (pa_cons (pv 1) pa_nil))) (blkOk_by (own := [("part", 4)]) (N := N__law_read) (sc := defScope s__law_read) (by decide +kernel)) (fun _ _ _ _ _ => pg_name (i := 4) nd rfl (.inl rfl)) (fun _ _ _ _ _ => pts_nil) (fun _ _ _ _ _ => (pe_tup (pa_cons (pe_ix (r := rIxT K) ix_tup (pv 4) pe_int (fun _ _ => rfl)) (pa_cons (pe_callB (r := rLenS K) call_len_seq (by rfl) T.b_len PySem.boot_len (pa_cons (pv 4) pa_nil)) pa_nil)))))
      (pss_one (ps_ret (pe_ifExp (pt_cmpR op_eq (pe_lenSetK (by rfl) (by rfl) T.b_len (by rfl) T.b_set (pv 3) hr.units) (pe_lenSetT (by rfl) (by rfl) T.b_len (by rfl) T.b_set (pe_lc (own := [("row", 5)]) (g := (gName 5)) (tt := tYes) (by rfl) nd (pi_list (pv 3)) (blkOk_by (own := [("row", 5)]) (N := N__law_read) (sc := defScope s__law_read) (by decide +kernel)) (fun _ _ _ _ _ => pg_name (i := 5) nd rfl (.inl rfl)) (fun _ _ _ _ _ => pts_nil) (fun _ _ _ _ _ => (pe_ix (r := rIxT K) ix_tup (pv 5) pe_int (fun _ _ => rfl))))) (nomark _)) (pv 1) pe_non))))))), ?_⟩
    have lx : x.length = x.cps.toList.length := (Array.length_toList ..).symm
    have big : x.length ≤ sizeLine := Nat.le_trans hx (by decide)
    refine ⟨.str x, rfl, .str x, .ty "str", _, _, _, rfl, .ty _, (Dx.str x : Dx K H (.str x) (.str x)).ty, kit_ty (kit_str (.str x)), _, rfl, iteF ?_⟩
    refine ⟨_, rfl, x, 0, rfl, by omega, Nat.zero_le _, by omega, fun r p H1 s1 e1 => ?_, fun d r res v e p H1 s1 e1 dv he de => ?_⟩
    · rw [List.drop_zero] at r
      refine ⟨p, _, rfl, SqT.of e1, rfl, _, _, rfl, _, _, rfl, rfl, ⟨_, rfl, rfl, _, rfl, iteT (iteT ?_)⟩⟩
      have t := told_none (x := x) fun d hd e => r d [] hd (.inl rfl) (by rw [List.append_nil]; exact list_of e)
      rw [t] at q
      exact q _ _ s1 .non
    · rw [List.drop_zero] at res
      obtain ⟨b, rfl⟩ : ∃ b, v = .ref b := by
        obtain ⟨_, _, rfl, _⟩ := formed_shape res.1
        cases dv
        exact ⟨_, rfl⟩
      refine ⟨p, _, rfl, SqT.of e1, rfl, _, _, rfl, _, _, rfl, rfl, ⟨_, rfl, rfl, _, rfl, iteF ⟨_, rfl, _, rfl, x, rfl, big, rfl, _, rfl, ?_⟩⟩⟩
      by_cases en : e = x.length
      case neg =>
        have ne : V.int (e : Int) ≠ V.int (x.length : Int) := fun z => en (Int.ofNat_inj.mp (V.int.inj z))
        rw [show (!decide (V.int (e : Int) = V.int (x.length : Int))) = true by rw [decide_eq_false ne]; rfl]
        have t := told_none (x := x) fun d' hd z => by
          obtain ⟨_, e2⟩ := res.2.2 d' [] hd (.inl rfl) (by rw [List.append_nil]; exact list_of z)
          rw [← de] at e2
          have := congrArg List.length e2
          rw [List.length_drop, List.length_nil] at this
          omega
        rw [t] at q
        exact iteT (q _ _ s1 .non)
      case pos =>
      subst en
      rw [show (!decide (V.int (x.length : Int) = V.int (x.length : Int))) = false by rw [decide_eq_true rfl]; rfl]
      have r0 : r = [] := by
        rw [← de, lx, List.drop_length]
      have ex : x = tS (tx d) := by
        rw [← tS_list x, res.2.1, r0, List.append_nil]
      have ef := res.1
      have dpt := depth_tx d ef
      have ltx : (tx d).length = x.length := by rw [ex, tS_len]
      have rw64 := few d ef ex
      have et : toldD x = if termD d = true then some d else none := by
        unfold toldD
        rw [ex, told_all ef]
        rfl
      refine iteF ⟨_, rfl, .ref b, d, rfl, dv, ef, by omega, by omega, fun p H2 zs sm2 np sa pm => ?_⟩
      have sm1 := s1
      have lz : zs.length < 64 := by
        have := pm.length_eq
        rw [List.length_map] at this
        omega
      refine ⟨p, rfl, ⟨_, .inl (.inl sa.1)⟩, fun D nD => ?_⟩
      refine lc_list (K := K) (a := p) (xs := zs.map fun z => V.ref z.1) (fun i H3 => Same H2 H3 ∧ ∃ ks : List Kx.Row, H3 D = some (.lst (ks.map fun r => V.ref r.1)) ∧ ks.map Prod.snd = (zs.take i).map (fun z => rowK (rowOf z)) ∧ ∀ r, r ∈ ks → H3 r.1 = some (.tup (r.2.map kV)))
        ⟨same_new nD, [], upd_same, by simp, fun r h => (nomatch h)⟩ (fun i H3 _ h => .inl (.inl (h.1 _ _ sa.1))) ?_ ?_
      · rintro i y H3 hi ⟨sm3, ks, eD, ek, hk⟩
        rw [List.getElem?_map] at hi
        obtain ⟨z, hz, rfl⟩ := Option.map_eq_some_iff.mp hi
        have lt : i < zs.length := (List.getElem?_eq_some_iff.mp hz).1
        have lk : ks.length = i := by
          have := congrArg List.length ek
          simp only [List.length_map, List.length_take] at this
          omega
        have tz := sm3 _ _ (sa.2 z (List.mem_of_getElem? hz))
        refine ⟨rfl, (iteT (B := False) ?_ : if true = true then _ else False)⟩
        refine ⟨_, rfl, z.1, _, 0, .str z.2.1, rfl, rfl, SqT.of tz, atI_nat (j := 0) rfl, _, rfl, z.1, _, rfl, .inr (SqT.of tz), (by show 2 ≤ sizeLine; decide), fun c nc => ?_⟩
        have ncD : D ≠ c := ne_of_none eD nc
        refine ⟨ks.map fun r => V.ref r.1, by rw [upd_ne ncD]; exact eD, by rw [List.length_map]; exact small1000 (by omega), fun b o hb => ?_, ks ++ [(c, rowK (rowOf z))], by rw [upd_same, List.map_append]; rfl, ?_, fun r hr => ?_⟩
        · rw [upd_ne (ne_of_none hb nD)]
          exact same_new nc b o (sm3 b o hb)
        · rw [List.map_append, ek, List.take_add_one, hz, List.map_append]
          rfl
        · rcases List.mem_append.mp hr with h | h
          · have := hk r h
            rw [upd_ne (ne_of this eD (fun e => nomatch e)), upd_ne (ne_of_none this nc)]
            exact this
          · rw [List.mem_singleton.mp h, upd_ne ncD.symm, upd_same]
            rfl
      · rintro H3 ⟨sm3, ks, eD, ek, hk⟩
        rw [List.length_map, List.take_length] at ek
        have lk : ks.length = zs.length := by
          have := congrArg List.length ek
          simpa only [List.length_map] using this
        refine ⟨_, rfl, D, ks, rfl, .inl (.inl eD), fun r hr => SqT.of (hk r hr), by omega, fun m hm => ?_⟩
        refine ⟨_, rfl, D, rfl, ⟨_, .inl (.inl eD)⟩, fun E nE => ?_⟩
        refine lc_list (K := K) (a := D) (xs := ks.map fun r => V.ref r.1) (fun i H4 => Same H3 H4 ∧ H4 E = some (.lst ((zs.take i).map fun z => V.str z.2.1)))
          ⟨same_new nE, by rw [upd_same]; simp⟩ (fun i H4 _ h => .inl (.inl (h.1 _ _ eD))) ?_ ?_
        · rintro i y H4 hi ⟨sm4, eE⟩
          rw [List.getElem?_map] at hi
          obtain ⟨r, hr, rfl⟩ := Option.map_eq_some_iff.mp hi
          have lt : i < zs.length := by
            rw [← lk]
            exact (List.getElem?_eq_some_iff.mp hr).1
          have e2 := congrArg (fun l => l[i]?) ek
          simp only [List.getElem?_map, hr, List.getElem?_eq_getElem lt, Option.map_some] at e2
          have tz := sm4 _ _ (hk r (List.mem_of_getElem? hr))
          rw [Option.some.inj e2] at tz
          refine ⟨rfl, (iteT (B := False) ?_ : if true = true then _ else False)⟩
          refine ⟨_, rfl, r.1, _, 0, .str zs[i].2.1, rfl, rfl, SqT.of tz, atI_nat (j := 0) rfl, _, eE, ?_, fun b o hb => ?_, ?_⟩
          · rw [List.length_map, List.length_take]
            exact small1000 (by omega)
          · rw [upd_ne (ne_of_none hb nE)]
            exact sm4 b o hb
          · rw [upd_same, List.take_add_one, List.getElem?_eq_getElem lt, List.map_append]
            rfl
        · rintro H4 ⟨sm4, eE⟩
          rw [List.length_map, lk, List.take_length] at eE
          refine ⟨E, zs.map fun z => z.2.1, rfl, .inl (.inl (by rw [eE, List.map_map]; rfl)), by rw [List.length_map]; omega, ?_⟩
          have s34 : Same H2 H4 := fun b o hb => sm4 b o (sm3 b o hb)
          have smA : Same H1 H4 := sm2.trans s34
          have m1 : m = Kx.cnt (zs.map rowOf) := by
            rw [← hm (und (keysK ks)) (und_nodup _) (mem_und _), und_len, keysK, ek]
            have : (zs.map fun z => rowK (rowOf z)) = (zs.map rowOf).map rowK := by rw [List.map_map]; rfl
            rw [this, cnt_inj rowK_inj]
          have m2 : (zs.map fun z => z.2.1) = (zs.map rowOf).map Prod.fst := by rw [List.map_map]; rfl
          rw [m2, m1]
          have e3 : termD d = decide ((Kx.cnt (zs.map rowOf) : Int) = (Kx.cnt ((zs.map rowOf).map Prod.fst) : Int)) := by
            rw [termD, ef, Bool.true_and]
            refine decide_eq_decide.mpr ?_
            rw [Int.ofNat_inj, cnt_func]
            exact Func.congr fun p => (pm.mem_iff).symm
          have e4 : ∀ a b : Int, decide (V.int a = V.int b) = decide (a = b) := fun a b => decide_eq_decide.mpr ⟨fun h => V.int.inj h, fun h => by rw [h]⟩
          rw [← e4] at e3
          refine ⟨rfl, _, rfl, ?_⟩
          rw [← e3]
          rw [et] at q
          cases t : termD d with
          | true =>
            rw [t] at q
            exact iteT ⟨_, rfl, q _ _ (s1.trans smA) (dv.up smA)⟩
          | false =>
            rw [t] at q
            exact iteF (q _ _ (s1.trans smA) .non)
end
end K04
/-! Texts bent. -/
namespace Kx
open PySem PySem.Spec PyProof.Rows L2
theorem cutS_pre (z : Str) (i : Nat) : cutS z none (some (i : Int)) = ⟨(z.cps.toList.take i).toArray⟩ := by
  unfold cutS
  rw [show HT.sIx z.length 0 none = 0 from rfl, show HT.sIx z.length z.length (some (i : Int)) = min i z.length from HT.sIx_nat _ _ _]
  have e : z.length = z.cps.toList.length := (Array.length_toList ..).symm
  rw [List.drop_zero, Nat.sub_zero]
  by_cases h : i ≤ z.length
  · rw [Nat.min_eq_left h]
  · rw [Nat.min_eq_right (show z.length ≤ i by omega), List.take_of_length_le (by omega), List.take_of_length_le (by omega)]
theorem cutS_suf (z : Str) (i : Nat) : cutS z (some (i : Int)) none = ⟨(z.cps.toList.drop i).toArray⟩ := by
  unfold cutS
  rw [show HT.sIx z.length 0 (some (i : Int)) = min i z.length from HT.sIx_nat _ _ _, show HT.sIx z.length z.length none = z.length from rfl]
  have e : z.length = z.cps.toList.length := (Array.length_toList ..).symm
  by_cases h : i ≤ z.length
  · rw [Nat.min_eq_left h, List.take_of_length_le (by rw [List.length_drop]; omega)]
  · rw [Nat.min_eq_right (show z.length ≤ i by omega), Nat.sub_self, List.drop_eq_nil_of_le (show z.cps.toList.length ≤ i by omega), List.take_zero]
end Kx
namespace K04
open PySem PySem.Spec PyProof.Rows L2 Kx
def signs : List Str := ["a", "f", "z", "(", ")", ",", " ", "A", "1", "", "()", ")(", "=", "\n", "(a)", ",a"]
theorem signs_ok : ∀ x, x ∈ signs → x.length ≤ 3 ∧ sc x.cps.toList ≤ 1 := by decide +kernel
/-- y is x bent -/
def Bent (x y : Str) : Prop := y.length ≤ x.length + 3 ∧ sc y.cps.toList ≤ sc x.cps.toList + 1
theorem tl_tS (l : List Nat) : (⟨l.toArray⟩ : Str).cps.toList = l := List.toList_toArray ..
theorem len_tl (x : Str) : x.length = x.cps.toList.length := (Array.length_toList ..).symm
theorem len_cat (x y : Str) : (x ++ y).length = x.length + y.length := by rw [len_tl, str_app, List.length_append, ← len_tl, ← len_tl]
section
variable {P : Program} {w : World} {K : PySem.W.Frag} {mg : Str → Option Value} {base : Heap}
def spBn (K : PySem.W.Frag) : Sp := fun vs H Q _ => ∃ (a : Addr) (n : Nat) (x : Str), vs = [.ref a, .str x] ∧ Dice H a n ∧ n + 5 < cap ∧ 0 < x.length ∧ x.length ≤ 900 ∧
  ∀ (y : Str) H', But a H H' → Dice H' a (n + 3) → Bent x y → Q (.str y) H'
theorem ok_bn (T : Tx K mg) : FnOk P w K mg base CX0 3 T.a_law_bent T.d_law_bent ["dice", "text"] (spBn K) := by
  have nd := sc__law_bent.nd
  have G1 := ok_roll (P := P) (w := w) (base := base) T
  have G2 := ok_pick (P := P) (w := w) (base := base) T
  refine T.f_law_bent.ok sc__law_bent (fun vs H Q E h => ?_) (fun cdv A outer s H vs Q E hr h => ?_)
  · obtain ⟨a, n, x, rfl, _⟩ := h
    rfl
  · obtain ⟨a, n, x, rfl, hd, hn, l0, l9, q⟩ := h
    refine ⟨_, (pss_cons (ps_par (i := 2) (j := 3) (by rfl) nd rfl rfl (by decide) rfl rfl (pa_cons (pe_call G1 (hr.mono (by omega)) (by rfl) T.g_law_roll T.f_law_roll.kp T.n_law_roll .nil pass0 (pa_cons (pv 0) (pa_cons (pe_callB call_len_str (by rfl) T.b_len (by decide +kernel) (pa_cons (pv 1) pa_nil)) pa_nil))) (pa_cons (pe_call G1 (hr.mono (by omega)) (by rfl) T.g_law_roll T.f_law_roll.kp T.n_law_roll .nil pass0 (pa_cons (pv 0) (pa_cons pe_int pa_nil))) pa_nil)) (by rfl))
      (pss_cons (ps_set (i := 4) nd rfl (.inl rfl) (pe_lst (pa_cons pe_str (pa_cons pe_str (pa_cons pe_str (pa_cons pe_str (pa_cons pe_str (pa_cons pe_str (pa_cons pe_str (pa_cons pe_str (pa_cons pe_str (pa_cons pe_str (pa_cons pe_str (pa_cons pe_str (pa_cons pe_str (pa_cons pe_str (pa_cons pe_str (pa_cons pe_str pa_nil))))))))))))))))))
      (pss_cons (ps_set (i := 5) nd rfl (.inl rfl) (pe_call G2 (hr.mono (by omega)) (by rfl) T.g_law_pick T.f_law_pick.kp T.n_law_pick .nil pass0 (pa_cons (pv 0) (pa_cons (pv 4) pa_nil))))
      (pss_cons (ps_if (pt_cmpR op_eq (pv 3) pe_int (nomark _)) (pss_one (ps_ret (pe_op op_add_str (pe_op op_add_str (pe_slice sl_str (pv 1) po_none (po_some (pv 2))) (pv 5)) (pe_slice sl_str (pv 1) (po_some (pv 2)) po_none)))) pss_nil)
      (pss_cons (ps_if (pt_cmpR op_eq (pv 3) pe_int (nomark _)) (pss_one (ps_ret (pe_op op_add_str (pe_slice sl_str (pv 1) po_none (po_some (pv 2))) (pe_slice sl_str (pv 1) (po_some (pe_op op_add (pv 2) pe_int)) po_none)))) pss_nil)
      (pss_cons (ps_if (pt_cmpR op_eq (pv 3) pe_int (nomark _)) (pss_one (ps_ret (pe_op op_add_str (pe_op op_add_str (pe_slice sl_str (pv 1) po_none (po_some (pv 2))) (pv 5)) (pe_slice sl_str (pv 1) (po_some (pe_op op_add (pv 2) pe_int)) po_none)))) pss_nil)
      (pss_cons (ps_set (i := 6) nd rfl (.inl rfl) (pe_op op_add_str (pe_slice sl_str (pv 1) (po_some (pe_op op_add (pv 2) pe_int)) (po_some (pe_op op_add (pv 2) pe_int))) (pe_slice sl_str (pv 1) (po_some (pv 2)) (po_some (pe_op op_add (pv 2) pe_int)))))
      (pss_one (ps_ret (pe_op op_add_str (pe_op op_add_str (pe_slice sl_str (pv 1) po_none (po_some (pv 2))) (pv 6)) (pe_slice sl_str (pv 1) (po_some (pe_op op_add (pv 2) pe_int)) po_none))))))))))), ?_⟩
    have big : x.length ≤ sizeLine := Nat.le_trans l9 (by decide)
    refine ⟨_, rfl, _, rfl, x, rfl, big, a, n, _, rfl, hd, by omega, by omega, by omega, fun r H1 bt1 hd1 r0 r1 => ?_⟩
    obtain ⟨k, rfl⟩ := Int.eq_ofNat_of_zero_le r0
    refine ⟨_, rfl, a, n + 1, _, rfl, hd1, by omega, by decide, by decide, fun r2 H2 bt2 hd2 r20 r21 => ⟨_, _, rfl, ?_⟩⟩
    refine ⟨(by show 16 ≤ sizeLine; decide), fun p np => ?_⟩
    have sp := same_put (o := .lst (signs.map V.str)) np
    have hd3 := hd2.up sp
    have npa : p ≠ a := hd2.ne np
    refine ⟨_, rfl, _, rfl, a, p, n + 1 + 1, signs.map V.str, rfl, hd3, by omega, .inl (.inl upd_same), npa, by decide, by decide, fun i v H4 bt4 hd4 hv => ?_⟩
    rw [List.getElem?_map] at hv
    obtain ⟨sg, hs, rfl⟩ := Option.map_eq_some_iff.mp hv
    obtain ⟨s1, s2⟩ := signs_ok sg (List.mem_of_getElem? hs)
    have bt : But a H H4 := (bt1.trans bt2).trans ((But.of sp).trans bt4)
    have q := fun y b => q y H4 bt hd4 b
    obtain ⟨l, el⟩ : ∃ l, l = x.cps.toList := ⟨_, rfl⟩
    have lx := len_tl x
    rw [← el] at lx
    have c1 : sc l = sc (l.take k) + sc (l.drop k) := by rw [← sc_app, List.take_append_drop]
    have c2 : sc (l.drop k) = sc ((l.drop k).take 1) + sc (l.drop (k + 1)) := by
      rw [← sc_app, ← List.drop_drop, List.take_append_drop]
    have c3 : sc (l.drop (k + 1)) = sc ((l.drop (k + 1)).take 1) + sc (l.drop (k + 2)) := by
      rw [← sc_app, show k + 2 = k + 1 + 1 from rfl, ← List.drop_drop (i := 1) (j := k + 1), List.take_append_drop]
    have t1 : (l.take k).length ≤ k := List.length_take_le ..
    have t2 : (l.take k).length ≤ l.length := (List.take_sublist _ _).length_le
    have d1 : (l.drop k).length = l.length - k := List.length_drop
    have d2 : (l.drop (k + 1)).length = l.length - (k + 1) := List.length_drop
    have d3 : (l.drop (k + 2)).length = l.length - (k + 2) := List.length_drop
    have u1 : ((l.drop k).take 1).length ≤ 1 := List.length_take_le ..
    have u2 : ((l.drop (k + 1)).take 1).length ≤ 1 := List.length_take_le ..
    have kx : (k : Int) < x.length := r1
    have line : 10000 ≤ sizeLine := by decide
    have cx : sc x.cps.toList = sc l := by rw [el]
    have scat : ∀ y z : Str, sc (y ++ z).cps.toList = sc y.cps.toList + sc z.cps.toList := fun y z => by rw [str_app, sc_app]
    have mk : ∀ m : List Nat, (⟨m.toArray⟩ : Str).length = m.length ∧ sc (⟨m.toArray⟩ : Str).cps.toList = sc m := fun m => ⟨by rw [len_tl, tl_tS], by rw [tl_tS]⟩
    obtain ⟨A1, eA, lA, cA⟩ : ∃ A : Str, cutS x none (some (k : Int)) = A ∧ A.length = (l.take k).length ∧ sc A.cps.toList = sc (l.take k) := ⟨_, rfl, by rw [cutS_pre, ← el]; exact mk _⟩
    obtain ⟨B1, eB, lB, cB⟩ : ∃ A : Str, cutS x (some (k : Int)) none = A ∧ A.length = (l.drop k).length ∧ sc A.cps.toList = sc (l.drop k) := ⟨_, rfl, by rw [cutS_suf, ← el]; exact mk _⟩
    obtain ⟨C1, eC, lC, cC⟩ : ∃ A : Str, cutS x (some ((k : Int) + 1)) none = A ∧ A.length = (l.drop (k + 1)).length ∧ sc A.cps.toList = sc (l.drop (k + 1)) := ⟨_, rfl, by rw [show (k : Int) + 1 = ((k + 1 : Nat) : Int) from rfl, cutS_suf, ← el]; exact mk _⟩
    obtain ⟨D1, eD, lD, cD⟩ : ∃ A : Str, cutS x (some ((k : Int) + 2)) none = A ∧ A.length = (l.drop (k + 2)).length ∧ sc A.cps.toList = sc (l.drop (k + 2)) := ⟨_, rfl, by rw [show (k : Int) + 2 = ((k + 2 : Nat) : Int) from rfl, cutS_suf, ← el]; exact mk _⟩
    obtain ⟨U1, eU, lU, cU⟩ : ∃ A : Str, cutS x (some (k : Int)) (some ((k : Int) + 1)) = A ∧ A.length = ((l.drop k).take 1).length ∧ sc A.cps.toList = sc ((l.drop k).take 1) := ⟨_, rfl, by rw [cutS_one, ← el]; exact mk _⟩
    obtain ⟨V1, eV, lV, cV⟩ : ∃ A : Str, cutS x (some ((k : Int) + 1)) (some ((k : Int) + 2)) = A ∧ A.length = ((l.drop (k + 1)).take 1).length ∧ sc A.cps.toList = sc ((l.drop (k + 1)).take 1) := ⟨_, rfl, by rw [show (k : Int) + 1 = ((k + 1 : Nat) : Int) from rfl, show (k : Int) + 2 = ((k + 1 : Nat) : Int) + 1 from rfl, cutS_one, ← el]; exact mk _⟩
    refine ⟨_, rfl, rfl, _, rfl, ite2 (fun h0 => ?_) (fun h0 => ?_)⟩
    · refine ⟨_, rfl, _, rfl, _, rfl, x, rfl, big, ?_⟩
      rw [eA]
      refine ⟨_, rfl, A1, sg, rfl, rfl, by omega, ?_⟩
      refine ⟨_, rfl, _, rfl, _, rfl, x, rfl, big, ?_⟩
      rw [eB]
      refine ⟨A1 ++ sg, B1, rfl, rfl, by rw [len_cat]; omega, q _ ⟨by rw [len_cat, len_cat]; omega, by rw [scat, scat]; omega⟩⟩
    refine ⟨_, rfl, rfl, _, rfl, ite2 (fun h0 => ?_) (fun h0 => ?_)⟩
    · refine ⟨_, rfl, _, rfl, _, rfl, x, rfl, big, ?_⟩
      rw [eA]
      refine ⟨_, rfl, _, rfl, _, _, rfl, rfl, _, rfl, x, rfl, big, ?_⟩
      rw [eC]
      exact ⟨A1, C1, rfl, rfl, by omega, q _ ⟨by rw [len_cat]; omega, by rw [scat]; omega⟩⟩
    refine ⟨_, rfl, rfl, _, rfl, ite2 (fun h0 => ?_) (fun h0 => ?_)⟩
    · refine ⟨_, rfl, _, rfl, _, rfl, x, rfl, big, ?_⟩
      rw [eA]
      refine ⟨_, rfl, A1, sg, rfl, rfl, by omega, ?_⟩
      refine ⟨_, rfl, _, rfl, _, _, rfl, rfl, _, rfl, x, rfl, big, ?_⟩
      rw [eC]
      exact ⟨A1 ++ sg, C1, rfl, rfl, by rw [len_cat]; omega, q _ ⟨by rw [len_cat, len_cat]; omega, by rw [scat, scat]; omega⟩⟩
    refine ⟨_, rfl, _, rfl, _, _, rfl, rfl, _, rfl, _, rfl, _, _, rfl, rfl, _, rfl, x, rfl, big, ?_⟩
    rw [eV]
    refine ⟨_, rfl, _, rfl, _, rfl, _, rfl, _, _, rfl, rfl, _, rfl, x, rfl, big, ?_⟩
    rw [eU]
    refine ⟨V1, U1, rfl, rfl, by omega, ?_⟩
    refine ⟨_, rfl, _, rfl, _, rfl, x, rfl, big, ?_⟩
    rw [eA]
    refine ⟨_, rfl, A1, V1 ++ U1, rfl, rfl, by rw [len_cat]; omega, ?_⟩
    refine ⟨_, rfl, _, rfl, _, _, rfl, rfl, _, rfl, x, rfl, big, ?_⟩
    rw [eD]
    exact ⟨A1 ++ (V1 ++ U1), D1, rfl, rfl, by rw [len_cat, len_cat]; omega, q _ ⟨by rw [len_cat, len_cat, len_cat]; omega, by rw [scat, scat, scat]; omega⟩⟩
end
end K04
/-! Displays at given locals; a text times a number. -/
namespace Kx
open PySem PySem.Spec PyProof.Rows L2
/-- te makes d, with these locals -/
def MkAt (K : PySem.W.Frag) (σ : L2.St) (te : TE) (d : PyData) : Prop := ∀ (H : Hp) (Q : VK), (∀ x H', Same H H' → Dx K H' x d → Q x H') → te σ H Q
def MkAts (K : PySem.W.Frag) (σ : L2.St) (ta : TA) (ds : List PyData) : Prop := ∀ (H : Hp) (Q : List V → Hp → Prop), (∀ xs H', Same H H' → DxAll K H' xs ds → Q xs H') → ta σ H Q
section
variable {K : PySem.W.Frag} {σ : L2.St} {te : TE} {ta : TA} {d : PyData} {ds : List PyData}
theorem ma_var {i : Nat} {x : Str} (h : σ[i]? = some (some (.str x))) : MkAt K σ (tVar i) (.str x) := fun H Q q => ⟨_, h, q _ H (Same.refl H) (.str x)⟩
theorem ma_nil : MkAts K σ tNil [] := fun H Q q => q _ H (Same.refl H) .nil
theorem ma_cons (h1 : MkAt K σ te d) (h2 : MkAts K σ ta ds) : MkAts K σ (tCons te ta) (d :: ds) := fun H Q q =>
  h1 H _ fun x H1 s1 d1 => h2 H1 _ fun xs H2 s2 d2 => q _ H2 (s1.trans s2) (.cons (d1.up s2) d2)
theorem ma_tup (h : MkAts K σ ta ds) (few : ds.length ≤ sizeLine) : MkAt K σ (tTup ta) (.tuple ds) := fun H Q q =>
  h H _ fun xs H1 s1 d1 => ⟨by rw [d1.length]; exact few, fun p np => q _ _ (s1.trans (same_put np)) (.tup upd_same (d1.up (same_put np)))⟩
theorem ma_lst (h : MkAts K σ ta ds) (few : ds.length ≤ sizeLine) : MkAt K σ (tLst ta) (.list ds) := fun H Q q =>
  h H _ fun xs H1 s1 d1 => ⟨by rw [d1.length]; exact few, fun p np => q _ _ (s1.trans (same_put np)) (.lst upd_same (d1.up (same_put np)))⟩
theorem asg_at {H : Hp} {j : Nat} {rest : TS} {D : Ends} (m : MkAt K σ te d) (q : ∀ x H', Same H H' → Dx K H' x d → rest D (σ.set j (some x)) H') : tSeq (tAsg te (gName j)) rest D σ H := m H _ q
theorem ma_str (x : Str) : MkAt K σ (tC (.str x)) (.str x) := fun H Q q => q _ H (Same.refl H) (.str x)
theorem ma_int (i : Int) : MkAt K σ (tC (.int i)) (.int i) := fun H Q q => q _ H (Same.refl H) (.int i)
theorem ma_bl (b : Bool) : MkAt K σ (tC (.bl b)) (.bool b) := fun H Q q => q _ H (Same.refl H) (.bl b)
end
section
variable {X : Cx}
/-- a text times a number -/
def rMulS : R2 := fun x y H Q => ∃ (z : Str) (n : Int), x = .str z ∧ y = .int n ∧ MulOk z n ∧ Q (.str (Txt.mul z n)) H
theorem op_mulS : OpR X (binaryOp .Mult) rMulS := by
  intro pins s σ H x y v u Q I rx ry h
  obtain ⟨z, n, rfl, rfl, ok, q⟩ := h
  obtain ⟨t, rfl⟩ := rx
  obtain ⟨t2, rfl⟩ := ry
  exact PySem.SB.mul ok fun t' k => ⟨.str _, H, I.tok k, ⟨_, rfl⟩, q⟩
end
end Kx
/-! What the law knows of its texts. -/
namespace K04
open PySem PySem.Spec PyProof.Rows L2 Kx
mutual
theorem wt_rows : ∀ (d : PyData), formedD d = true → wt d + 1 = 5 * (rowsD d).length
  | .none, h => by cases h
  | .bool _, h => by cases h
  | .int _, h => by cases h
  | .str _, h => by cases h
  | .list _, h => by cases h
  | .dict _, h => by cases h
  | .tuple [], h => by cases h
  | .tuple (d :: ds), h => by
    simp only [formedD, Bool.and_eq_true] at h
    cases d with
    | str x =>
      have := wtA_rows ds h.2
      rw [rowsD, List.length_cons]
      show (1 + 1 + wtA ds + 2) + 1 = _
      omega
    | _ => cases h.1.2
theorem wtA_rows : ∀ (ds : List PyData), formedAll ds = true → wtA ds = 5 * (rowsAll ds).length
  | [], _ => rfl
  | e :: es, h => by
    rw [formedAll, Bool.and_eq_true] at h
    have h1 := wt_rows e h.1
    have h2 := wtA_rows es h.2
    rw [rowsAll, List.length_append]
    show wt e + 1 + wtA es = _
    omega
end
/-- a text of which the law's own reader is asked -/
def Askable (y : Str) : Prop := y.length ≤ 1000 ∧ ∀ d, formedD d = true → y = tS (tx d) → (rowsD d).length < 64
theorem ask_few {y : Str} (l : y.length ≤ 1000) (h : sc y.cps.toList ≤ 62) : Askable y := ⟨l, fun d hd e => by
  rw [rows_tx d hd, ← list_of e]
  omega⟩
theorem tl_tS' (l : List Nat) : (tS l).cps.toList = l := List.toList_toArray ..
theorem ask_twice {d : PyData} (hd : formedD d = true) (l : (tx d).length ≤ 480) : Askable (tS (tx d) ++ tS (tx d)) := by
  refine ⟨by rw [len_cat, tS_len]; omega, fun e he z => ?_⟩
  have z2 := list_of z
  rw [str_app, tl_tS'] at z2
  by_cases c : ∃ x, d = .tuple [.str x]
  · obtain ⟨x, rfl⟩ := c
    obtain ⟨_, _, e0, _, hn, _⟩ := formed_shape hd
    cases e0
    rw [rows_tx e he, ← z2, sc_app]
    have : tx (.tuple [.str x]) = x.cps.toList := by
      show x.cps.toList ++ [] = _
      rw [List.append_nil]
    rw [this, sc_name hn]
    decide
  · exact absurd z2.symm (twice hd (fun x h => c ⟨x, h⟩) he)
mutual
theorem tree_formed : ∀ d : PyData, formedD d = true → treeD d = true
  | .none, h => by cases h
  | .bool _, h => by cases h
  | .int _, h => by cases h
  | .str _, h => by cases h
  | .list _, h => by cases h
  | .dict _, h => by cases h
  | .tuple [], h => by cases h
  | .tuple (d :: ds), h => by
    simp only [formedD, Bool.and_eq_true] at h
    cases d with
    | str x => exact trees_formed ds h.2
    | _ => cases h.1.2
theorem trees_formed : ∀ ds : List PyData, formedAll ds = true → treeAll ds = true
  | [], _ => rfl
  | e :: es, h => by
    rw [formedAll, Bool.and_eq_true] at h
    rw [treeAll, tree_formed e h.1, trees_formed es h.2]
    rfl
end
theorem opt_ok {y : Str} (l : y.length ≤ 1000) (s : y.length ≤ 560) : (optD (toldD y)).canLay0 = true ∧ (optD (toldD y)).hasDict = false ∧ (optD (toldD y)).depth ≤ 190 := by
  cases e : toldD y with
  | none => exact ⟨rfl, rfl, Nat.zero_le _⟩
  | some d =>
    obtain ⟨h1, h2⟩ := (told_iff y d).mp e
    have f : formedD d = true := by
      simp only [termD, Bool.and_eq_true] at h2
      exact h2.1
    have p := plain_formed d f
    have dp := depth_tx d f
    have : y.length = (tx d).length := by rw [h1, tS_len]
    exact ⟨p.lay, p.hd, by show d.depth ≤ 190; omega⟩
def last3 : List PyData := [chainD 39, dblD 6, .tuple [.str "abcdefgh", .tuple [.str "abcdefgi"], .tuple [.str "zzzzzzzz"], .tuple [.str "a"]]]
theorem lay3 : (PyData.list (last3.map fun d => .str (tS (tx d)))).canLay0 = true ∧ (PyData.list (last3.map fun d => .str (tS (tx d)))).hasDict = false ∧ (PyData.list (last3.map fun d => .str (tS (tx d)))).depth ≤ 190 ∧ (PyData.list last3).canLay0 = true ∧ (PyData.list last3).hasDict = false ∧ (PyData.list last3).depth ≤ 190 := by decide +kernel
/-- the law's last terms -/
theorem last3_ok : ∀ d, d ∈ last3 → (shortD d = true ∧ szD d ≤ 100000) ∧ termD d = true ∧ wt d ≤ 100000 ∧ (tx d).length ≤ 1000 ∧ d.depth ≤ 40 := by
  have e : (last3.all fun d => shortD d && decide (szD d ≤ 100000) && (termD d && (decide (wt d ≤ 100000) && (decide ((tx d).length ≤ 1000) && decide (d.depth ≤ 40))))) = true := by decide +kernel
  intro d hd
  have := List.all_eq_true.mp e d hd
  simpa [and_assoc] using this
def longS : Str := Txt.mul "g(" 99 ++ "a" ++ Txt.mul ")" 99
theorem long_ok : longS = tS (tx (chainD 99)) ∧ termD (chainD 99) = true ∧ longS.length ≤ 1000 ∧ (chainD 99).depth ≤ 190 ∧ (chainD 99).canLay0 = true ∧ (chainD 99).hasDict = false ∧ (Txt.mul "g(" 99).length = 198 ∧ (Txt.mul ")" 99).length = 99 := by decide +kernel
theorem mul_ok : MulOk "g(" 99 ∧ MulOk ")" 99 := ⟨⟨by decide, fun _ _ => by decide, fun _ _ => by decide⟩, ⟨by decide, fun _ _ => by decide, fun _ _ => by decide⟩⟩
def odds1 : List PyData := [.none, .int 0, .bool true, .tuple [], .tuple [.str "a"], .list [.str "a"], .dict [], .str "", .str " a", .str "a ", .str "a\n", .str "f()", .str "f(a,)", .str "f(,a)", .str "f(a", .str "f(a))"]
def odds2 : List PyData := [.str "f(a, b)", .str "F(a)", .str "f(a)(b)", .str "f(f)", .str "f(g(a),g)", .str "f(a,b,c,d)", .str "abcdefghi", .str "f(abcdefghi)"]
def odds3 : List PyData := [.str "f(a)b", .str "1", .str "f(a b)"]
def odds : List PyData := odds1 ++ odds2 ++ odds3
theorem odds_ok : ∀ d, d ∈ odds → (∀ y, d = .str y → y.length ≤ 1000) ∧ toldX d = none := by
  have e : (odds.all fun d => (match d with | .str y => decide (y.length ≤ 1000) | _ => true) && (toldX d).isNone) = true := by decide +kernel
  intro d hd
  have := List.all_eq_true.mp e d hd
  rw [Bool.and_eq_true] at this
  refine ⟨fun y h => ?_, by simpa using this.2⟩
  rw [h] at this
  simpa using this.1
end K04
/-! The law. -/
namespace K04
open PySem PySem.Spec PyProof.Rows L2 Kx
theorem ma_grown {K : PySem.W.Frag} {σ : L2.St} {D : Nat → PyData} {E : XK} {t : Int} (n : Nat) (h : t = n + 1) (hn : n ≤ 1000) : MkAt K σ (tCall (spGrown K D) [] E (tCons (tC (.int t)) tNil)) (D n) := fun H Q q => ⟨t, n, rfl, h, hn, q⟩
section
variable {P : Program} {w : World} {K : PySem.W.Frag} {mg : Str → Option Value} {base : Heap}
def spLts (K : PySem.W.Frag) : Sp := fun vs H Q E => ∃ (a b : Addr) (t : Int) (n : Nat), vs = [.ref a, .ref b, .int t] ∧ t = n ∧ n ≤ 4 ∧ spLt K n [.ref a, .ref b, .int (n : Int)] H Q E
theorem ok_lts (T : Tx K mg) : FnOk P w K mg base CX0 7 T.a_law_term T.d_law_term ["dice", "names", "deep"] (spLts K) :=
  ⟨fun vs H Q E ⟨a, b, t, n, e, _⟩ => by rw [e]; rfl, fun A outer s H args us vs Q E hr e0 b r ⟨a, c, t, n, e, et, hn, h⟩ => by
    subst et
    subst e
    exact (ok_lt (P := P) (w := w) (base := base) T n).run A outer s H args us _ Q E (hr.mono (by omega)) e0 b r h⟩
def spLaw (K : PySem.W.Frag) : Sp := fun vs H Q _ => ∃ (a : Addr) (ns : List Int), vs = [.ref a] ∧ SqL K H a (ns.map V.int) ∧ ∀ H', Q (.bl true) H'
theorem ok_law (T : Tx K mg) : FnOk P w K mg base CX0 160 T.alaw T.dlaw ["script"] (spLaw K) := by
  have nd := sc_law.nd
  have Gdice := ok_dice (P := P) (w := w) (base := base) T
  have Gnames := ok_names (P := P) (w := w) (base := base) T
  have Glt := ok_lts (P := P) (w := w) (base := base) T
  have Gtxt := ok_txt (P := P) (w := w) (base := base) T 40
  have Gto := ok_to (P := P) (w := w) (base := base) T
  have Gtold := ok_told (P := P) (w := w) (base := base) T
  have Gbent := ok_bn (P := P) (w := w) (base := base) T
  have Glr := ok_lr (P := P) (w := w) (base := base) T
  have Gchain := ok_chain (P := P) (w := w) (base := base) T
  have Gdbl := ok_dbl (P := P) (w := w) (base := base) T
  refine T.flaw.ok sc_law (fun vs H Q E h => ?_) (fun cdv A outer s H vs Q E hr h => ?_)
  · obtain ⟨a, ns, rfl, _⟩ := h
    rfl
  · obtain ⟨a, ns, rfl, hS, q⟩ := h
    refine ⟨_, (pss_cons (ps_for PassesOwn.never rfl (pi_range1 (by rfl) T.b_range (pa_cons (pe_callB (call_max2 rfl) (by rfl) T.b_max (by decide +kernel) (pa_cons pe_int (pa_cons (pe_callB (call_min2 rfl) (by rfl) T.b_min (by decide +kernel) (pa_cons pe_int (pa_cons (pe_callB call_len_seq (by rfl) T.b_len (by decide +kernel) (pa_cons (pv 0) pa_nil)) pa_nil))) pa_nil))) pa_nil)) (pg_name (i := 1) nd rfl (.inl rfl)) (pss_cons (ps_set (i := 2) nd rfl (.inr rfl) (pe_call Gdice (hr.mono (by omega)) (by rfl) T.g_law_dice T.f_law_dice.kp T.n_law_dice .nil pass0 (pa_cons (pv 0) (pa_cons (pv 1) pa_nil))))
      (pss_cons (ps_set (i := 3) nd rfl (.inl rfl) (pe_call Gnames (hr.mono (by omega)) (by rfl) T.g_law_names T.f_law_names.kp T.n_law_names .nil pass0 (pa_cons (pv 2) (pa_cons pe_int pa_nil))))
      (pss_one (ps_for PassesOwn.never rfl (pi_range1 (by rfl) T.b_range (pa_cons pe_int pa_nil)) (pg_name (i := 4) nd rfl (.inl rfl)) (pss_cons (ps_set (i := 5) nd rfl (.inl rfl) (pe_call Glt (hr.mono (by omega)) (by rfl) T.g_law_term T.f_law_term.kp T.n_law_term .nil pass0 (pa_cons (pv 2) (pa_cons (pv 3) (pa_cons (pe_op op_add pe_int (pe_op op_mod (pv 4) pe_int)) pa_nil)))))
      (pss_cons (ps_set (i := 6) nd rfl (.inr rfl) (pe_call Gtxt (hr.mono (by omega)) (by rfl) T.g_law_text T.f_law_text.kp T.n_law_text .nil pass0 (pa_cons (pv 5) pa_nil)))
      (pss_cons (ps_if (PW.pt (pw_or (pt_cmpR op_ne (pe_call Gto (hr.mono (by omega)) (by rfl) T.gtext_of T.ftext_of.kp T.ntext_of .nil pass0 (pa_cons (pv 5) pa_nil)) (pv 6) (nomark _)) (pw_or1 (pt_cmpR (op_neF (room200 hr)) (pe_call Gtold (hr.mono (by omega)) (by rfl) T.g_law_told T.f_law_told.kp T.n_law_told .nil pass0 (pa_cons (pv 6) pa_nil)) (pv 5) (nomark _))))) (pss_one (ps_ret pe_bl)) pss_nil)
      (pss_cons (ps_setLc (i := 7) (own := [("again", 11)]) (g := (gName 11)) (tt := tYes) (by rfl) nd rfl rfl (sw_true rfl rfl rfl (by decide +kernel)) (pi_range1 (by rfl) T.b_range (pa_cons pe_int pa_nil)) (blkOk_by (own := [("again", 11)]) (N := N_law) (sc := defScope s_law) (by decide +kernel)) (fun _ _ _ _ _ => pg_name (i := 11) nd rfl (.inl rfl)) (fun _ _ _ _ _ => pts_nil) (fun _ _ _ _ _ => (pe_call Gbent (hr.mono (by omega)) (by rfl) T.g_law_bent T.f_law_bent.kp T.n_law_bent .nil pass0 (pa_cons (pv 2) (pa_cons (pv 6) pa_nil)))))
      (pss_cons (ps_set (i := 7) nd rfl (.inl rfl) (pe_op op_cat (pv 7) (pe_lc (own := [("one", 10)]) (g := (gName 10)) (by rfl) nd (pi_list (pv 7)) (blkOk_by (own := [("one", 10)]) (N := N_law) (sc := defScope s_law) (by decide +kernel)) (fun _ _ _ _ _ => pg_name (i := 10) nd rfl (.inl rfl)) (fun _ _ _ _ _ => (pts_one (pt_cmpR op_ne (pv 10) pe_str (nomark _)))) (fun _ _ _ _ _ => (pe_call Gbent (hr.mono (by omega)) (by rfl) T.g_law_bent T.f_law_bent.kp T.n_law_bent .nil pass0 (pa_cons (pv 2) (pa_cons (pv 10) pa_nil)))))))
      (pss_cons (ps_set (i := 7) nd rfl (.inl rfl) (pe_op op_cat (pv 7) (pe_lst (pa_cons (pe_op op_add_str (pv 6) (pv 6)) (pa_cons (pe_op op_add_str (pe_op op_add_str pe_str (pv 6)) pe_str) (pa_cons (pe_op op_add_str (pv 6) pe_str) pa_nil))))))
      (pss_cons (ps_setLc (i := 7) (own := [("one", 10)]) (g := (gName 10)) (by rfl) nd rfl rfl (sw_true rfl rfl rfl (by decide +kernel)) (pi_list (pv 7)) (blkOk_by (own := [("one", 10)]) (N := N_law) (sc := defScope s_law) (by decide +kernel)) (fun _ _ _ _ _ => pg_name (i := 10) nd rfl (.inl rfl)) (fun _ _ _ _ _ => (pts_one (pt_cmpR op_le (pe_callB call_len_str (by rfl) T.b_len (by decide +kernel) (pa_cons (pv 10) pa_nil)) pe_int (nomark _)))) (fun _ _ _ _ _ => (pv 10)))
      (pss_one (ps_if (pt_cmpR (op_neNil hr.units) (pe_lc (own := [("one", 10)]) (g := (gName 10)) (by rfl) nd (pi_list (pv 7)) (blkOk_by (own := [("one", 10)]) (N := N_law) (sc := defScope s_law) (by decide +kernel)) (fun _ _ _ _ _ => pg_name (i := 10) nd rfl (.inl rfl)) (fun _ _ _ _ _ => (pts_one (pt_cmpR (r := rNeF K) (op_neF (room200 hr)) (pe_call Gtold (hr.mono (by omega)) (by rfl) T.g_law_told T.f_law_told.kp T.n_law_told .nil pass0 (pa_cons (pv 10) pa_nil)) (pe_call Glr (hr.mono (by omega)) (by rfl) T.g_law_read T.f_law_read.kp T.n_law_read .nil pass0 (pa_cons (pv 10) pa_nil)) (nomark _)))) (fun _ _ _ _ _ => (pv 10))) (pe_lst pa_nil) (nomark _)) (pss_one (ps_ret pe_bl)) pss_nil))))))))))))))
      (pss_cons (ps_set (i := 8) nd rfl (.inl rfl) (pe_lst (pa_cons pe_non (pa_cons pe_int (pa_cons pe_bl (pa_cons (pe_tup pa_nil) (pa_cons (pe_tup (pa_cons pe_str pa_nil)) (pa_cons (pe_lst (pa_cons pe_str pa_nil)) (pa_cons pe_dnewK (pa_cons pe_str (pa_cons pe_str (pa_cons pe_str (pa_cons pe_str (pa_cons pe_str (pa_cons pe_str (pa_cons pe_str (pa_cons pe_str (pa_cons pe_str pa_nil))))))))))))))))))
      (pss_cons (ps_set (i := 8) nd rfl (.inl rfl) (pe_op op_cat (pv 8) (pe_lst (pa_cons pe_str (pa_cons pe_str (pa_cons pe_str (pa_cons pe_str (pa_cons pe_str (pa_cons pe_str (pa_cons pe_str (pa_cons pe_str pa_nil)))))))))))
      (pss_cons (ps_set (i := 8) nd rfl (.inl rfl) (pe_op op_cat (pv 8) (pe_lst (pa_cons pe_str (pa_cons pe_str (pa_cons pe_str pa_nil))))))
      (pss_cons (ps_if (pt_cmpR (op_neNil hr.units) (pe_lc (own := [("one", 10)]) (g := (gName 10)) (by rfl) nd (pi_list (pv 8)) (blkOk_by (own := [("one", 10)]) (N := N_law) (sc := defScope s_law) (by decide +kernel)) (fun _ _ _ _ _ => pg_name (i := 10) nd rfl (.inl rfl)) (fun _ _ _ _ _ => (pts_one (pt_cmpR op_notN (pe_call Gtold (hr.mono (by omega)) (by rfl) T.g_law_told T.f_law_told.kp T.n_law_told .nil pass0 (pa_cons (pv 10) pa_nil)) pe_non (nomark _)))) (fun _ _ _ _ _ => (pv 10))) (pe_lst pa_nil) (nomark _)) (pss_one (ps_ret pe_bl)) pss_nil)
      (pss_cons (ps_if (pt_cmpR (op_neF (room200 hr)) (pe_call Gtold (hr.mono (by omega)) (by rfl) T.g_law_told T.f_law_told.kp T.n_law_told .nil pass0 (pa_cons (pe_op op_add_str (pe_op op_add_str (pe_op op_mulS pe_str pe_int) pe_str) (pe_op op_mulS pe_str pe_int)) pa_nil)) (pe_call Gchain (hr.mono (by omega)) (by rfl) T.g_law_chain T.f_law_chain.kp T.n_law_chain .nil pass0 (pa_cons pe_int pa_nil)) (nomark _)) (pss_one (ps_ret pe_bl)) pss_nil)
      (pss_cons (ps_set (i := 7) nd rfl (.inl rfl) (pe_lst (pa_cons (pe_call Gchain (hr.mono (by omega)) (by rfl) T.g_law_chain T.f_law_chain.kp T.n_law_chain .nil pass0 (pa_cons pe_int pa_nil)) (pa_cons (pe_call Gdbl (hr.mono (by omega)) (by rfl) T.g_law_doubled T.f_law_doubled.kp T.n_law_doubled .nil pass0 (pa_cons pe_int pa_nil)) (pa_cons (pe_tup (pa_cons pe_str (pa_cons (pe_tup (pa_cons pe_str pa_nil)) (pa_cons (pe_tup (pa_cons pe_str pa_nil)) (pa_cons (pe_tup (pa_cons pe_str pa_nil)) pa_nil))))) pa_nil)))))
      (pss_cons (ps_setLc (i := 9) (own := [("term", 5)]) (g := (gName 5)) (tt := tYes) (by rfl) nd rfl rfl (sw_true rfl rfl rfl (by decide +kernel)) (pi_list (pv 7)) (blkOk_by (own := [("term", 5)]) (N := N_law) (sc := defScope s_law) (by decide +kernel)) (fun _ _ _ _ _ => pg_name (i := 5) nd rfl (.inl rfl)) (fun _ _ _ _ _ => pts_nil) (fun _ _ _ _ _ => (pe_call Gtxt (hr.mono (by omega)) (by rfl) T.g_law_text T.f_law_text.kp T.n_law_text .nil pass0 (pa_cons (pv 5) pa_nil))))
      (pss_cons (ps_if (pt_cmpR (op_neF (room200 hr)) (pe_lc (own := [("term", 5)]) (g := (gName 5)) (tt := tYes) (by rfl) nd (pi_list (pv 7)) (blkOk_by (own := [("term", 5)]) (N := N_law) (sc := defScope s_law) (by decide +kernel)) (fun _ _ _ _ _ => pg_name (i := 5) nd rfl (.inl rfl)) (fun _ _ _ _ _ => pts_nil) (fun _ _ _ _ _ => (pe_call Gto (hr.mono (by omega)) (by rfl) T.gtext_of T.ftext_of.kp T.ntext_of .nil pass0 (pa_cons (pv 5) pa_nil)))) (pv 9) (nomark _)) (pss_one (ps_ret pe_bl)) pss_nil)
      (pss_one (ps_ret (pe_cmpR (op_eqF (room200 hr)) (pe_lc (own := [("text", 6)]) (g := (gName 6)) (tt := tYes) (by rfl) nd (pi_list (pv 9)) (blkOk_by (own := [("text", 6)]) (N := N_law) (sc := defScope s_law) (by decide +kernel)) (fun _ _ _ _ _ => pg_name (i := 6) nd rfl (.inl rfl)) (fun _ _ _ _ _ => pts_nil) (fun _ _ _ _ _ => (pe_call Gtold (hr.mono (by omega)) (by rfl) T.g_law_told T.f_law_told.kp T.n_law_told .nil pass0 (pa_cons (pv 6) pa_nil)))) (pv 7) (nomark _))))))))))))), ?_⟩
    have jb : ∀ n : Nat, 1 ≤ (if (if (n : Int) < 6 then (n : Int) else 6) > 1 then (if (n : Int) < 6 then (n : Int) else 6) else 1) ∧ (if (if (n : Int) < 6 then (n : Int) else 6) > 1 then (if (n : Int) < 6 then (n : Int) else 6) else 1) ≤ 6 := fun n => by
      split <;> split <;> omega
    obtain ⟨j1, j2⟩ := jb (ns.map V.int).length
    refine ⟨_, rfl, a, _, rfl, .inl hS, 6, _, rfl, 1, _, rfl, _, rfl, by omega, by omega, ?_⟩
    generalize (if (if (((ns.map V.int).length : Nat) : Int) < 6 then (((ns.map V.int).length : Nat) : Int) else 6) > 1 then (if (((ns.map V.int).length : Nat) : Int) < 6 then (((ns.map V.int).length : Nat) : Int) else 6) else 1) = j at j1 j2 ⊢
    refine for_range (fun i σ H' => Same H H' ∧ ∃ y1 y2 y3 y4 y5 y6 y7 y8 y9 y10 y11, σ = [some (.ref a), y1, y2, y3, y4, y5, y6, y7, y8, y9, y10, y11]) ⟨Same.refl H, none, none, none, none, none, none, none, none, none, none, none, rfl⟩ ?_ ?_
    · rintro i σ H1 hi ⟨s1, y1, y2, y3, y4, y5, y6, y7, y8, y9, y10, y11, rfl⟩
      have hS1 : SqL K H1 a (ns.map V.int) := by
        rcases hS with (h | ⟨o, h⟩) | h
        · exact .inl (.inl (s1 _ _ h))
        · exact .inl (.inr ⟨o, s1 _ _ h⟩)
        · exact .inr h
      refine ⟨_, rfl, _, rfl, a, ns, i, ?_, hS1, by omega, fun H2 p s2 np d0 => ?_⟩
      · rw [Int.zero_add]
        rfl
      refine ⟨_, rfl, p, 0, rfl, d0, by decide, fun nm zs H3 bt3 dd3 nn npn rn gd => ?_⟩
      have nH : H p = none := by
        cases e : H p with
        | none => rfl
        | some o =>
          rw [s1 _ _ e] at np
          cases np
      have keep : ∀ {G G' : Hp}, Same H G → But p G G' → Same H G' := fun sG bG b o e => bG b o (sG b o e) (ne_of_none e nH)
      have s3 := keep (s1.trans s2) bt3
      have dd3 : Dice H3 p 100 := dd3
      have rn3 := rn
      refine ⟨6, rfl, by decide, by decide, for_range (fun k σ H' => Same H H' ∧ Dice H' p (100 + 150 * k) ∧ RowsIn H' nm zs ∧ ∃ y1 y4 y5 y6 y7 y8 y9 y10 y11, σ = [some (.ref a), y1, some (.ref p), some (.ref nm), y4, y5, y6, y7, y8, y9, y10, y11]) ⟨s3, dd3, rn3, _, _, _, _, _, _, _, _, _, rfl⟩ ?_ ?_⟩
      · rintro k σ G1 hk ⟨sG, dG, rG, z1, z4, z5, z6, z7, z8, z9, z10, z11, rfl⟩
        have hk : k < 6 := hk
        have c80 : cost (3 + k % 2) ≤ 80 := by
          have : k % 2 = 0 ∨ k % 2 = 1 := by omega
          rcases this with e | e <;> rw [e] <;> decide
        refine ⟨_, rfl, _, rfl, _, rfl, _, _, rfl, rfl, (by show (0 : Int) < 2; decide), _, _, rfl, rfl, p, nm, _, 3 + k % 2, rfl, ?_, by omega, p, nm, 100 + 150 * k, zs, rfl, by omega, dG, ?_, rG, npn, gd, fun x d H4 bt4 dd4 dx tm => ?_⟩
        · rw [Int.zero_add]
          omega
        · show 100 + 150 * k + cost (3 + k % 2) < 1000000
          omega
        have dd4 : Dice H4 p (100 + 150 * k + 80) := dd4.le (by omega)
        have r4 := rG.but bt4 dG npn
        have s4 := keep sG bt4
        have fn : Func (rowsD d) := fun r hr t ht e => gd.fn r (tm.rw r hr) t (tm.rw t ht) e
        have ht : termD d = true := by
          rw [termD, tm.fm, decide_eq_true fn]
          rfl
        have pd := plain_formed d tm.fm
        have dp4 : d.depth ≤ 4 := by have := tm.dp; omega
        obtain ⟨lt, rt⟩ := formed_bound 4 d tm.fm dp4
        have lt : (tx d).length ≤ 480 := lt
        have rt : (rowsD d).length ≤ 40 := rt
        have sct := rows_tx d tm.fm
        have tb := (tree_bound d (tree_formed d tm.fm)).1
        have wtb := wt_rows d tm.fm
        have txp := tx_pos tm.fm
        obtain ⟨text, etx⟩ : ∃ text, text = tS (tx d) := ⟨_, rfl⟩
        have ltext : text.length = (tx d).length := by rw [etx, tS_len]
        have stext : sc text.cps.toList = sc (tx d) := by rw [etx, tl_tS']
        have told : toldD text = some d := (told_iff text d).mpr ⟨etx, ht⟩
        refine ⟨_, rfl, x, d, rfl, dx, tm.fm, by omega, by omega, fun H5 s5 => ?_⟩
        rw [← etx]
        refine ⟨_, rfl, x, d, rfl, ⟨dx.up s5, pd.short, by omega⟩, ht, by omega, by omega, fun H6 s6 => ?_⟩
        rw [← etx]
        refine ⟨_, rfl, rfl, _, rfl, ?_⟩
        rw [decide_eq_true rfl]
        refine iteF ⟨_, rfl, .str text, .str text, rfl, .str _, fun y e => by cases e; omega, fun v H7 s7 dv => ?_⟩
        rw [show toldX (.str text) = some d from told] at dv
        have s47 := s5.trans (s6.trans s7)
        have dx7 := dx.up s47
        refine ⟨_, rfl, d, d, Dx.dp pd.hd dv, dx7.dp pd.hd, pd.lay, pd.lay, by omega, _, rfl, ?_⟩
        rw [SeqAt.eqv_refl _ pd.lay]
        refine iteF ?_
        have dd7 := dd4.up s47
        have r7 := r4.up s47
        have s7H := s4.trans s47
        have l9 : 0 < text.length := by omega
        -- bent ones
        refine ⟨6, rfl, by decide, by decide, fun D nD => ?_⟩
        have npD := dd7.ne nD
        have sD := same_put (o := .lst []) nD
        refine lc_range (fun i H' => But p H7 H' ∧ Dice H' p (100 + 150 * k + 80 + 3 * i) ∧ ∃ ys : List Str, H' D = some (.lst (ys.map V.str)) ∧ ys.length = i ∧ ∀ y, y ∈ ys → Bent text y)
          ⟨But.of sD, dd7.up sD, [], upd_same, rfl, fun y h => nomatch h⟩ ?_ ?_
        · rintro i H' hi ⟨bt, dd, ys, eD, ly, by1⟩
          refine ⟨rfl, (iteT (B := False) ?_ : if true = true then _ else False)⟩
          refine ⟨_, rfl, _, rfl, p, _, text, rfl, dd, by show 100 + 150 * k + 80 + 3 * i + 5 < 1000000; omega, l9, by omega, fun y H'' bt2 dd2 b => ⟨_, bt2 _ _ eD npD, ?_, (bt.trans bt2).put nD, (dd2.put npD).le (by omega), ys ++ [y], by rw [upd_same, List.map_append]; rfl, by rw [List.length_append, ly]; rfl, fun z hz => ?_⟩⟩
          · rw [List.length_map]
            exact small1000 (by omega)
          · rcases List.mem_append.mp hz with h | h
            · exact by1 z h
            · rw [List.mem_singleton.mp h]
              exact b
        · rintro H8 ⟨bt8, dd8, ys, eD, ly, by1⟩
          have dd8 : Dice H8 p (100 + 150 * k + 98) := dd8
          -- bent again
          refine ⟨_, rfl, _, rfl, D, rfl, ⟨_, .inl (.inl eD)⟩, fun D2 nD2 => ?_⟩
          have npD2 := dd8.ne nD2
          have sD2 := same_put (o := .lst []) nD2
          refine lc_list (K := K) (a := D) (xs := ys.map V.str) (fun i H' => But p H8 H' ∧ Dice H' p (100 + 150 * k + 98 + 3 * i) ∧ ∃ zs2 : List Str, H' D2 = some (.lst (zs2.map V.str)) ∧ zs2.length ≤ i ∧ ∀ z, z ∈ zs2 → ∃ y, Bent text y ∧ Bent y z)
            ⟨But.of sD2, dd8.up sD2, [], upd_same, Nat.le_refl _, fun y h => nomatch h⟩ (fun i H' _ h => .inl (.inl (h.1 _ _ eD npD))) ?_ ?_
          · rintro i v H' hi ⟨bt, dd, zs2, e2, l2, bz⟩
            rw [List.getElem?_map] at hi
            obtain ⟨y, hy, rfl⟩ := Option.map_eq_some_iff.mp hi
            have ilt : i < ys.length := (List.getElem?_eq_some_iff.mp hy).1
            have hb := by1 y (List.mem_of_getElem? hy)
            refine ⟨rfl, _, rfl, rfl, _, rfl, ?_⟩
            by_cases e0 : y = ""
            · rw [show (!decide (V.str y = V.str "")) = false by rw [decide_eq_true (by rw [e0])]; rfl]
              exact iteF ⟨bt, dd.le (by omega), zs2, e2, by omega, bz⟩
            · rw [show (!decide (V.str y = V.str "")) = true by rw [decide_eq_false (fun z => e0 (V.str.inj z))]; rfl]
              have y0 : 0 < y.length := by
                apply Classical.byContradiction
                intro z
                refine e0 (str_of ?_)
                have : y.cps.toList.length = 0 := by rw [← len_tl]; omega
                rw [List.eq_nil_of_length_eq_zero this]
                rfl
              refine iteT ⟨_, rfl, _, rfl, p, _, y, rfl, dd, by show 100 + 150 * k + 98 + 3 * i + 5 < 1000000; omega, y0, by have := hb.1; omega, fun z H'' bt2 dd2 b => ⟨_, bt2 _ _ e2 npD2, ?_, (bt.trans bt2).put nD2, (dd2.put npD2).le (by omega), zs2 ++ [z], by rw [upd_same, List.map_append]; rfl, by rw [List.length_append]; exact Nat.succ_le_succ l2, fun u hu => ?_⟩⟩
              · rw [List.length_map]
                exact small1000 (by omega)
              · rcases List.mem_append.mp hu with h | h
                · exact bz u h
                · rw [List.mem_singleton.mp h]
                  exact ⟨y, hb, b⟩
          · rintro H9 ⟨bt9, dd9, zs2, e2, l2, bz⟩
            rw [List.length_map, ly] at l2 dd9
            have dd9 : Dice H9 p (100 + 150 * k + 116) := dd9
            have eD9 := bt9 _ _ eD npD
            refine ⟨D, D2, _, _, rfl, rfl, eD9, e2, ?_, fun q1 nq1 => ?_⟩
            · rw [List.length_map, List.length_map]
              exact Nat.le_of_lt (small1000 (by omega))
            have sq1 := same_put (o := .lst (ys.map V.str ++ zs2.map V.str)) nq1
            have eq1 : (upd H9 q1 (.lst (ys.map V.str ++ zs2.map V.str))) q1 = some (.lst (ys.map V.str ++ zs2.map V.str)) := upd_same
            generalize upd H9 q1 (.lst (ys.map V.str ++ zs2.map V.str)) = H10 at sq1 eq1 ⊢
            have lcat : ∀ x y : Str, x.length + y.length ≤ 2000 → x.length + y.length ≤ sizeLine := fun x y h => Nat.le_trans h (by decide)
            have o1 : ("(" : Str).length = 1 := rfl
            have o2 : (")" : Str).length = 1 := rfl
            have o3 : (" " : Str).length = 1 := rfl
            refine ⟨_, rfl, _, rfl, _, rfl, text, text, rfl, rfl, lcat _ _ (by omega), _, rfl, "(", text, rfl, rfl, lcat _ _ (by omega), _, ")", rfl, rfl, lcat _ _ (by rw [len_cat]; omega), _, rfl, text, " ", rfl, rfl, lcat _ _ (by omega), (by show 3 ≤ sizeLine; decide), fun u nu => ⟨q1, u, _, _, rfl, rfl, same_put nu _ _ eq1, upd_same, ?_, fun q2 nq2 => ?_⟩⟩
            · rw [List.length_append, List.length_map, List.length_map]
              exact Nat.le_of_lt (small1000 (by show ys.length + zs2.length + 3 ≤ 1000; omega))
            have su := same_put (o := .lst [.str (text ++ text), .str ("(" ++ text ++ ")"), .str (text ++ " ")]) nu
            have sq2 := same_put (o := .lst (ys.map V.str ++ zs2.map V.str ++ [.str (text ++ text), .str ("(" ++ text ++ ")"), .str (text ++ " ")])) nq2
            have s10 := sq1.trans (su.trans sq2)
            obtain ⟨all, eall⟩ : ∃ all : List Str, all = ys ++ zs2 ++ [text ++ text, "(" ++ text ++ ")", text ++ " "] := ⟨_, rfl⟩
            have vall : ys.map V.str ++ zs2.map V.str ++ [.str (text ++ text), .str ("(" ++ text ++ ")"), .str (text ++ " ")] = all.map V.str := by
              rw [eall, List.map_append, List.map_append]
              rfl
            rw [vall] at sq2 s10 ⊢
            have lall : all.length ≤ 15 := by
              rw [eall, List.length_append, List.length_append]
              show ys.length + zs2.length + 3 ≤ 15
              omega
            have askall : ∀ z, z ∈ all → Askable z := by
              intro z hz
              rw [eall] at hz
              rcases List.mem_append.mp hz with hz | hz
              · rcases List.mem_append.mp hz with hz | hz
                · have b := by1 z hz
                  exact ask_few (by have := b.1; omega) (by have := b.2; omega)
                · obtain ⟨y, b1, b2⟩ := bz z hz
                  exact ask_few (by have := b1.1; have := b2.1; omega) (by have := b1.2; have := b2.2; omega)
              · rcases List.mem_cons.mp hz with rfl | hz
                · rw [etx]
                  exact ask_twice tm.fm lt
                · rcases List.mem_cons.mp hz with rfl | hz
                  · refine ask_few (by rw [len_cat, len_cat]; omega) ?_
                    rw [str_app, str_app, sc_app, sc_app, show sc ("(" : Str).cps.toList = 1 from rfl, show sc (")" : Str).cps.toList = 0 from rfl]
                    omega
                  · rw [List.mem_singleton.mp hz]
                    refine ask_few (by rw [len_cat]; omega) ?_
                    rw [str_app, sc_app, show sc (" " : Str).cps.toList = 0 from rfl]
                    omega
            have e2q : (upd (upd H10 u (.lst [.str (text ++ text), .str ("(" ++ text ++ ")"), .str (text ++ " ")])) q2 (.lst (all.map V.str))) q2 = some (.lst (all.map V.str)) := upd_same
            generalize upd (upd H10 u (.lst [.str (text ++ text), .str ("(" ++ text ++ ")"), .str (text ++ " ")])) q2 (.lst (all.map V.str)) = H11 at sq2 s10 e2q ⊢
            -- the short ones
            refine ⟨_, rfl, q2, rfl, ⟨_, .inl (.inl e2q)⟩, fun D3 nD3 => ?_⟩
            refine lc_list (K := K) (a := q2) (xs := all.map V.str) (fun i H' => Same H11 H' ∧ ∃ ws : List Str, H' D3 = some (.lst (ws.map V.str)) ∧ ws.length ≤ i ∧ ∀ z, z ∈ ws → z.length ≤ 300 ∧ Askable z)
              ⟨same_put nD3, [], upd_same, Nat.le_refl _, fun y h => nomatch h⟩ (fun i H' _ h => .inl (.inl (h.1 _ _ e2q))) ?_ ?_
            · rintro i v H' hi ⟨sm, ws, ew, lw, aw⟩
              rw [List.getElem?_map] at hi
              obtain ⟨y, hy, rfl⟩ := Option.map_eq_some_iff.mp hi
              have ilt : i < all.length := (List.getElem?_eq_some_iff.mp hy).1
              have ay := askall y (List.mem_of_getElem? hy)
              refine ⟨rfl, _, rfl, y, rfl, Nat.le_trans ay.1 (by decide), _, 300, rfl, rfl, _, rfl, ?_⟩
              by_cases l3 : y.length ≤ 300
              · rw [decide_eq_true (show (y.length : Int) ≤ 300 by omega)]
                refine iteT ⟨_, rfl, ws.map V.str, ew, ?_, fun c o hc => ?_, ws ++ [y], by rw [upd_same, List.map_append]; rfl, by rw [List.length_append]; exact Nat.succ_le_succ lw, fun z hz => ?_⟩
                · rw [List.length_map]
                  exact small1000 (by omega)
                · rw [upd_ne (ne_of_none hc nD3)]
                  exact sm _ _ hc
                · rcases List.mem_append.mp hz with h | h
                  · exact aw z h
                  · rw [List.mem_singleton.mp h]
                    exact ⟨l3, ay⟩
              · rw [decide_eq_false (show ¬ (y.length : Int) ≤ 300 by omega)]
                exact iteF ⟨sm, ws, ew, by omega, aw⟩
            · rintro H12 ⟨sm12, ws, ew, lw, aw⟩
              refine ⟨_, rfl, D3, rfl, ⟨_, .inl (.inl ew)⟩, fun D4 nD4 => ?_⟩
              refine lc_list (K := K) (a := D3) (xs := ws.map V.str) (fun i H' => Same H12 H' ∧ H' D4 = some (.lst [])) ⟨same_put nD4, upd_same⟩ (fun i H' _ h => .inl (.inl (h.1 _ _ ew))) ?_ ?_
              · rintro i v H' hi ⟨sm, e4⟩
                rw [List.getElem?_map] at hi
                obtain ⟨y, hy, rfl⟩ := Option.map_eq_some_iff.mp hi
                obtain ⟨l3, ay⟩ := aw y (List.mem_of_getElem? hy)
                obtain ⟨k1, k2, k3⟩ := opt_ok (y := y) ay.1 (by omega)
                refine ⟨rfl, _, rfl, .str y, .str y, rfl, .str _, fun z e => by cases e; exact ay.1, fun v1 H13 s13 dv1 => ⟨_, rfl, y, rfl, l3, ay.2, fun v2 H14 s14 dv2 => ⟨optD (toldD y), optD (toldD y), (Dx.up s14 dv1).dp k2, dv2.dp k2, k1, k1, k3, _, rfl, ?_⟩⟩⟩
                rw [SeqAt.eqv_refl _ k1]
                exact iteF ⟨sm.trans (s13.trans s14), s14 _ _ (s13 _ _ e4)⟩
              · rintro H13 ⟨s13, e13⟩
                refine ⟨Nat.zero_le _, fun e ne => ⟨D4, e, [], rfl, rfl, .inl (.inl (same_put ne _ _ e13)), .inl (.inl upd_same), _, rfl, iteF ?_⟩⟩
                have sE := s10.trans (sm12.trans (s13.trans (same_put (o := .lst []) ne)))
                have btE := bt8.trans (bt9.trans (But.of sE))
                exact ⟨keep s7H btE, (dd9.up sE).le (by omega), r7.but btE dd7 npn, _, _, _, _, _, _, _, _, _, rfl⟩
      · rintro σ G1 ⟨sG, dG, rG, z1, z4, z5, z6, z7, z8, z9, z10, z11, rfl⟩
        exact ⟨sG, _, _, _, _, _, _, _, _, _, _, _, rfl⟩
    · rintro σ H1 ⟨s1, y1, y2, y3, y4, y5, y6, y7, y8, y9, y10, y11, rfl⟩
      have few : ∀ {ds : List PyData}, ds.length ≤ 20 → ds.length ≤ sizeLine := fun h => Nat.le_of_lt (small1000 (by omega))
      have mo1 : Makes K [] _ (.list odds1) := mk_lst (mk_cons mk_non (mk_cons (mk_int 0) (mk_cons (mk_bl true) (mk_cons (mk_tup mk_nil) (mk_cons (mk_tup (mk_cons (mk_str "a") mk_nil)) (mk_cons (mk_lst (mk_cons (mk_str "a") mk_nil)) (mk_cons mk_dic0 (mk_cons (mk_str "") (mk_cons (mk_str " a") (mk_cons (mk_str "a ") (mk_cons (mk_str "a\n") (mk_cons (mk_str "f()") (mk_cons (mk_str "f(a,)") (mk_cons (mk_str "f(,a)") (mk_cons (mk_str "f(a") (mk_cons (mk_str "f(a))") mk_nil)))))))))))))))) (few (by decide))
      have mo2 : Makes K [] _ (.list odds2) := mk_lst (mk_cons (mk_str "f(a, b)") (mk_cons (mk_str "F(a)") (mk_cons (mk_str "f(a)(b)") (mk_cons (mk_str "f(f)") (mk_cons (mk_str "f(g(a),g)") (mk_cons (mk_str "f(a,b,c,d)") (mk_cons (mk_str "abcdefghi") (mk_cons (mk_str "f(abcdefghi)") mk_nil)))))))) (few (by decide))
      have mo3 : Makes K [] _ (.list odds3) := mk_lst (mk_cons (mk_str "f(a)b") (mk_cons (mk_str "1") (mk_cons (mk_str "f(a b)") mk_nil))) (few (by decide))
      refine asg_mk mo1 olds_nil fun x2 H2 s2 d2 => ?_
      refine cat_mk (x := x2) rfl d2 mo2 (Nat.le_of_lt (small1000 (by decide))) olds_nil fun x3 H3 s3 d3 => ?_
      refine cat_mk (x := x3) rfl d3 mo3 (Nat.le_of_lt (small1000 (by decide))) olds_nil fun x4 H4 s4 d4 => ?_
      have d4 : Dx K H4 x4 (.list odds) := d4.up OffS.all
      cases d4 with
      | @lst lo xo _ eo dxo =>
      refine ⟨_, rfl, lo, rfl, ⟨_, .inl (.inl eo)⟩, fun D nD => ?_⟩
      refine lc_list (K := K) (a := lo) (xs := xo) (fun i H' => Same H4 H' ∧ H' D = some (.lst [])) ⟨same_put nD, upd_same⟩ (fun i H' _ h => .inl (.inl (h.1 _ _ eo))) ?_ ?_
      · rintro i v H' hi ⟨sm, e4⟩
        have lt : i < odds.length := by
          rw [← dxo.length]
          exact (List.getElem?_eq_some_iff.mp hi).1
        obtain ⟨v2, hv, dv⟩ := dxo.get (List.getElem?_eq_getElem lt)
        rw [hi] at hv
        cases hv
        obtain ⟨o1, o2⟩ := odds_ok _ (List.getElem_mem lt)
        refine ⟨rfl, _, rfl, v, odds[i], rfl, dv.up sm, o1, fun v1 H5 s5 dv1 => ?_⟩
        rw [o2] at dv1
        cases dv1
        exact ⟨rfl, _, rfl, iteF ⟨sm.trans s5, s5 _ _ e4⟩⟩
      · rintro H5 ⟨s5, e5⟩
        refine ⟨Nat.zero_le _, fun e ne => ⟨D, e, [], rfl, rfl, .inl (.inl (same_put ne _ _ e5)), .inl (.inl upd_same), _, rfl, iteF ?_⟩⟩
        generalize upd H5 e (.lst []) = H6
        -- a long one
        obtain ⟨g1, g2, g3, g4, g5, g6, g7, g8⟩ := long_ok
        have tl : toldD longS = some (chainD 99) := (told_iff _ _).mpr ⟨g1, g2⟩
        have lcat : ∀ x y : Str, x.length + y.length ≤ 2000 → x.length + y.length ≤ sizeLine := fun x y h => Nat.le_trans h (by decide)
        have o1 : ("a" : Str).length = 1 := rfl
        refine ⟨"g(", 99, rfl, rfl, mul_ok.1, _, "a", rfl, rfl, lcat _ _ (by rw [g7, o1]; decide), ")", 99, rfl, rfl, mul_ok.2, _, _, rfl, rfl, lcat _ _ (by rw [len_cat, g7, g8, o1]; decide), .str longS, .str longS, rfl, .str _, fun y e => by cases e; exact g3, fun v H7 s7 dv => ?_⟩
        rw [show toldX (.str longS) = some (chainD 99) from tl] at dv
        refine ⟨100, 99, rfl, rfl, by decide, fun x8 H8 s8 d8 => ⟨chainD 99, chainD 99, (Dx.up s8 dv).dp g6, d8.dp g6, g5, g5, g4, _, rfl, ?_⟩⟩
        rw [SeqAt.eqv_refl _ g5]
        refine iteF ?_
        -- the last ones
        have mk1 : ∀ σ0 : L2.St, MkAt K σ0 _ (.list last3) := fun σ0 => ma_lst (ma_cons (ma_grown (D := chainD) (E := E0) (t := 40) 39 rfl (by decide)) (ma_cons (ma_grown (D := dblD) (E := E0) (t := 7) 6 rfl (by decide)) (ma_cons (ma_tup (ma_cons (ma_str "abcdefgh") (ma_cons (ma_tup (ma_cons (ma_str "abcdefgi") ma_nil) (few (by decide))) (ma_cons (ma_tup (ma_cons (ma_str "zzzzzzzz") ma_nil) (few (by decide))) (ma_cons (ma_tup (ma_cons (ma_str "a") ma_nil) (few (by decide))) ma_nil)))) (few (by decide))) ma_nil))) (few (by decide))
        refine asg_at (mk1 _) fun x9 H9 s9 d9 => ?_
        cases d9 with
        | @lst l9 xs9 _ e9 dx9 =>
        have n9 := dx9.length
        have n9 : xs9.length = 3 := n9
        refine ⟨_, rfl, l9, rfl, ⟨_, .inl (.inl e9)⟩, fun D2 nD2 => ?_⟩
        refine lc_list (K := K) (a := l9) (xs := xs9) (fun i H' => Same H9 H' ∧ H' D2 = some (.lst ((last3.take i).map fun d => V.str (tS (tx d))))) ⟨same_put nD2, upd_same⟩ (fun i H' _ h => .inl (.inl (h.1 _ _ e9))) ?_ ?_
        · rintro i v H' hi ⟨sm, e4⟩
          have lt : i < last3.length := by
            rw [← dx9.length]
            exact (List.getElem?_eq_some_iff.mp hi).1
          have lt3 : i < 3 := lt
          have gd := List.getElem?_eq_getElem lt
          obtain ⟨v2, hv, dv⟩ := dx9.get gd
          rw [hi] at hv
          cases hv
          obtain ⟨k1, k2, k3, k4, k5⟩ := last3_ok _ (List.getElem_mem lt)
          have kf : formedD last3[i] = true := by
            simp only [termD, Bool.and_eq_true] at k2
            exact k2.1
          refine ⟨rfl, (iteT (B := False) ?_ : if true = true then _ else False)⟩
          refine ⟨_, rfl, v, last3[i], rfl, dv.up sm, kf, k5, by omega, fun H10 s10 => ⟨_, s10 _ _ e4, ?_, fun c o hc => ?_, ?_⟩⟩
          · rw [List.length_map, List.length_take]
            exact small1000 (by omega)
          · rw [upd_ne (ne_of_none hc nD2)]
            exact s10 _ _ (sm _ _ hc)
          · rw [upd_same, List.take_add_one, gd, List.map_append]
            rfl
        · rintro H10 ⟨s10, e10⟩
          rw [n9, show last3.take 3 = last3 from rfl] at e10
          have e9' := s10 _ _ e9
          have dx9' := dx9.up s10
          -- text_of
          refine ⟨_, rfl, l9, rfl, ⟨_, .inl (.inl e9')⟩, fun D3 nD3 => ?_⟩
          refine lc_list (K := K) (a := l9) (xs := xs9) (fun i H' => Same H10 H' ∧ H' D3 = some (.lst ((last3.take i).map fun d => V.str (tS (tx d))))) ⟨same_put nD3, upd_same⟩ (fun i H' _ h => .inl (.inl (h.1 _ _ e9'))) ?_ ?_
          · rintro i v H' hi ⟨sm, e4⟩
            have lt : i < last3.length := by
              rw [← dx9.length]
              exact (List.getElem?_eq_some_iff.mp hi).1
            have lt3 : i < 3 := lt
            have gd := List.getElem?_eq_getElem lt
            obtain ⟨v2, hv, dv⟩ := dx9'.get gd
            rw [hi] at hv
            cases hv
            obtain ⟨k1, k2, k3, k4, k5⟩ := last3_ok _ (List.getElem_mem lt)
            refine ⟨rfl, (iteT (B := False) ?_ : if true = true then _ else False)⟩
            refine ⟨_, rfl, v, last3[i], rfl, ⟨dv.up sm, k1⟩, k2, k3, by omega, fun H11 s11 => ⟨_, s11 _ _ e4, ?_, fun c o hc => ?_, ?_⟩⟩
            · rw [List.length_map, List.length_take]
              exact small1000 (by omega)
            · rw [upd_ne (ne_of_none hc nD3)]
              exact s11 _ _ (sm _ _ hc)
            · rw [upd_same, List.take_add_one, gd, List.map_append]
              rfl
          · rintro H11 ⟨s11, e11⟩
            rw [n9, show last3.take 3 = last3 from rfl] at e11
            obtain ⟨y1, y2, y3, w1, w2, w3⟩ := lay3
            have dsts : ∀ l : List PyData, DxAll K H11 (l.map fun d => V.str (tS (tx d))) (l.map fun d => .str (tS (tx d))) := by
              intro l
              induction l with
              | nil => exact .nil
              | cons a l ih => exact .cons (.str _) ih
            have da : ∀ {c}, H11 c = some (.lst (last3.map fun d => V.str (tS (tx d)))) → Dx K H11 (.ref c) (.list (last3.map fun d => .str (tS (tx d)))) := fun h => .lst h (dsts last3)
            refine ⟨_, rfl, _, _, (da e11).dp y2, (da (s11 _ _ e10)).dp y2, y1, y1, y3, _, rfl, ?_⟩
            rw [SeqAt.eqv_refl _ y1]
            refine iteF ?_
            have eD2 := s11 _ _ e10
            refine ⟨_, rfl, D2, rfl, ⟨_, .inl (.inl eD2)⟩, fun D4 nD4 => ?_⟩
            refine lc_list (K := K) (a := D2) (xs := last3.map fun d => V.str (tS (tx d))) (fun i H' => Same H11 H' ∧ ∃ ws : List V, H' D4 = some (.lst ws) ∧ DxAll K H' ws (last3.take i)) ⟨same_put nD4, [], upd_same, .nil⟩ (fun i H' _ h => .inl (.inl (h.1 _ _ eD2))) ?_ ?_
            · rintro i v H' hi ⟨sm, ws, e4, dw⟩
              rw [List.getElem?_map] at hi
              obtain ⟨dd, hd, rfl⟩ := Option.map_eq_some_iff.mp hi
              obtain ⟨k1, k2, k3, k4, k5⟩ := last3_ok _ (List.mem_of_getElem? hd)
              have td : toldX (.str (tS (tx dd))) = some dd := (told_iff _ _).mpr ⟨rfl, k2⟩
              refine ⟨rfl, (iteT (B := False) ?_ : if true = true then _ else False)⟩
              refine ⟨_, rfl, .str _, .str (tS (tx dd)), rfl, .str _, fun y e => by cases e; rw [tS_len]; exact k4, fun v1 H12 s12 dv1 => ?_⟩
              rw [td] at dv1
              have lw := dw.length
              have kf : formedD dd = true := by
                simp only [termD, Bool.and_eq_true] at k2
                exact k2.1
              have ew := s12 _ _ e4
              refine ⟨ws, ew, ?_, fun c o hc => ?_, ws ++ [v1], upd_same, ?_⟩
              · rw [lw, List.length_take]
                exact small1000 (by show min i 3 ≤ 1000; omega)
              · rw [upd_ne (ne_of_none hc nD4)]
                exact s12 _ _ (sm _ _ hc)
              · rw [List.take_add_one, hd]
                have pu : pureAll (last3.take i) = true := by
                  have : (last3.take i).all pureD = true := by
                    refine List.all_eq_true.mpr fun e he => ?_
                    have := (last3_ok e (List.mem_of_mem_take he)).2.1
                    simp only [termD, Bool.and_eq_true] at this
                    exact pure_formed e this.1
                  have pa : ∀ l : List PyData, l.all pureD = true → pureAll l = true := by
                    intro l
                    induction l with
                    | nil => exact fun _ => rfl
                    | cons a l ih =>
                      intro h
                      rw [List.all_cons, Bool.and_eq_true] at h
                      rw [pureAll, h.1, ih h.2]
                      rfl
                  exact pa _ this
                exact DxAll.append (DxAll.ts (Tups.lst ew) _ _ pu (dw.up s12)) (.cons (Dx.ts (Tups.lst ew) _ _ (pure_formed _ kf) dv1) .nil)
            · rintro H12 ⟨s12, ws, e12, dw⟩
              rw [List.length_map, show last3.take last3.length = last3 from rfl] at dw
              have dl : Dx K H12 (.ref D4) (.list last3) := .lst e12 dw
              have dm : Dx K H12 (.ref l9) (.list last3) := .lst (s12 _ _ (s11 _ _ e9')) (dx9'.up (s11.trans s12))
              refine ⟨_, rfl, _, _, dl.dp w2, dm.dp w2, w1, w1, w3, ?_⟩
              rw [SeqAt.eqv_refl _ w1]
              exact q _
end
end K04
open PySem PySem.Spec PyProof.Rows L2 Kx
theorem K04.tx_mk {K : PySem.W.Frag} {h : Heap} {mg : Str → Option Value} (X : K.In h) (G : h.Ns mainGlobals mg)
    {fwritten : Addr} {odwritten anwritten : Option Addr} {slwritten : Array (Option Value)} {ocwritten kVwritten dcwritten pmwritten cdwritten ctwritten : Value}
    {fis_name : Addr} {odis_name anis_name : Option Addr} {slis_name : Array (Option Value)} {ocis_name kVis_name dcis_name pmis_name cdis_name ctis_name : Value}
    {fis_term : Addr} {odis_term anis_term : Option Addr} {slis_term : Array (Option Value)} {ocis_term kVis_term dcis_term pmis_term cdis_term ctis_term : Value}
    {ftext_of : Addr} {odtext_of antext_of : Option Addr} {sltext_of : Array (Option Value)} {octext_of kVtext_of dctext_of pmtext_of cdtext_of cttext_of : Value}
    {fread_term : Addr} {odread_term anread_term : Option Addr} {slread_term : Array (Option Value)} {ocread_term kVread_term dcread_term pmread_term cdread_term ctread_term : Value}
    {fcheck_term : Addr} {odcheck_term ancheck_term : Option Addr} {slcheck_term : Array (Option Value)} {occheck_term kVcheck_term dccheck_term pmcheck_term cdcheck_term ctcheck_term : Value}
    {fjoint_places : Addr} {odjoint_places anjoint_places : Option Addr} {sljoint_places : Array (Option Value)} {ocjoint_places kVjoint_places dcjoint_places pmjoint_places cdjoint_places ctjoint_places : Value}
    {fhas_form : Addr} {odhas_form anhas_form : Option Addr} {slhas_form : Array (Option Value)} {ochas_form kVhas_form dchas_form pmhas_form cdhas_form cthas_form : Value}
    {fwords_in : Addr} {odwords_in anwords_in : Option Addr} {slwords_in : Array (Option Value)} {ocwords_in kVwords_in dcwords_in pmwords_in cdwords_in ctwords_in : Value}
    {fparsed : Addr} {odparsed anparsed : Option Addr} {slparsed : Array (Option Value)} {ocparsed kVparsed dcparsed pmparsed cdparsed ctparsed : Value}
    {f_law_dice : Addr} {od_law_dice an_law_dice : Option Addr} {sl_law_dice : Array (Option Value)} {oc_law_dice kV_law_dice dc_law_dice pm_law_dice cd_law_dice ct_law_dice : Value}
    {f_law_roll : Addr} {od_law_roll an_law_roll : Option Addr} {sl_law_roll : Array (Option Value)} {oc_law_roll kV_law_roll dc_law_roll pm_law_roll cd_law_roll ct_law_roll : Value}
    {f_law_pick : Addr} {od_law_pick an_law_pick : Option Addr} {sl_law_pick : Array (Option Value)} {oc_law_pick kV_law_pick dc_law_pick pm_law_pick cd_law_pick ct_law_pick : Value}
    {f_law_mixed : Addr} {od_law_mixed an_law_mixed : Option Addr} {sl_law_mixed : Array (Option Value)} {oc_law_mixed kV_law_mixed dc_law_mixed pm_law_mixed cd_law_mixed ct_law_mixed : Value}
    {f_law_text : Addr} {od_law_text an_law_text : Option Addr} {sl_law_text : Array (Option Value)} {oc_law_text kV_law_text dc_law_text pm_law_text cd_law_text ct_law_text : Value}
    {f_law_below : Addr} {od_law_below an_law_below : Option Addr} {sl_law_below : Array (Option Value)} {oc_law_below kV_law_below dc_law_below pm_law_below cd_law_below ct_law_below : Value}
    {f_law_names : Addr} {od_law_names an_law_names : Option Addr} {sl_law_names : Array (Option Value)} {oc_law_names kV_law_names dc_law_names pm_law_names cd_law_names ct_law_names : Value}
    {f_law_term : Addr} {od_law_term an_law_term : Option Addr} {sl_law_term : Array (Option Value)} {oc_law_term kV_law_term dc_law_term pm_law_term cd_law_term ct_law_term : Value}
    {f_law_chain : Addr} {od_law_chain an_law_chain : Option Addr} {sl_law_chain : Array (Option Value)} {oc_law_chain kV_law_chain dc_law_chain pm_law_chain cd_law_chain ct_law_chain : Value}
    {f_law_doubled : Addr} {od_law_doubled an_law_doubled : Option Addr} {sl_law_doubled : Array (Option Value)} {oc_law_doubled kV_law_doubled dc_law_doubled pm_law_doubled cd_law_doubled ct_law_doubled : Value}
    {f_law_name_end : Addr} {od_law_name_end an_law_name_end : Option Addr} {sl_law_name_end : Array (Option Value)} {oc_law_name_end kV_law_name_end dc_law_name_end pm_law_name_end cd_law_name_end ct_law_name_end : Value}
    {f_law_read_at : Addr} {od_law_read_at an_law_read_at : Option Addr} {sl_law_read_at : Array (Option Value)} {oc_law_read_at kV_law_read_at dc_law_read_at pm_law_read_at cd_law_read_at ct_law_read_at : Value}
    {f_law_read : Addr} {od_law_read an_law_read : Option Addr} {sl_law_read : Array (Option Value)} {oc_law_read kV_law_read dc_law_read pm_law_read cd_law_read ct_law_read : Value}
    {f_law_told : Addr} {od_law_told an_law_told : Option Addr} {sl_law_told : Array (Option Value)} {oc_law_told kV_law_told dc_law_told pm_law_told cd_law_told ct_law_told : Value}
    {f_law_bent : Addr} {od_law_bent an_law_bent : Option Addr} {sl_law_bent : Array (Option Value)} {oc_law_bent kV_law_bent dc_law_bent pm_law_bent cd_law_bent ct_law_bent : Value}
    {flaw : Addr} {odlaw anlaw : Option Addr} {sllaw : Array (Option Value)} {oclaw kVlaw dclaw pmlaw cdlaw ctlaw : Value}
    (awritten : PySem.W.nsIn K mainGlobals "written" = some (some (.ref fwritten))) (lwritten : K.lookup fwritten = some ⟨ocwritten, odwritten, .func (PySem.W.fnOf "written" "written" (defArgs K04.s_written) (defBody K04.s_written) (defScope K04.s_written) .none kVwritten dcwritten pmwritten anwritten cdwritten ctwritten), slwritten⟩) (cwritten : PySem.W.codeIn K cdwritten "written" = true) (kwritten : PySem.W.keepIn K (.ref fwritten) = true)
    (ais_name : PySem.W.nsIn K mainGlobals "is_name" = some (some (.ref fis_name))) (lis_name : K.lookup fis_name = some ⟨ocis_name, odis_name, .func (PySem.W.fnOf "is_name" "is_name" (defArgs K04.s_is_name) (defBody K04.s_is_name) (defScope K04.s_is_name) .none kVis_name dcis_name pmis_name anis_name cdis_name ctis_name), slis_name⟩) (cis_name : PySem.W.codeIn K cdis_name "is_name" = true) (kis_name : PySem.W.keepIn K (.ref fis_name) = true)
    (ais_term : PySem.W.nsIn K mainGlobals "is_term" = some (some (.ref fis_term))) (lis_term : K.lookup fis_term = some ⟨ocis_term, odis_term, .func (PySem.W.fnOf "is_term" "is_term" (defArgs K04.s_is_term) (defBody K04.s_is_term) (defScope K04.s_is_term) .none kVis_term dcis_term pmis_term anis_term cdis_term ctis_term), slis_term⟩) (cis_term : PySem.W.codeIn K cdis_term "is_term" = true) (kis_term : PySem.W.keepIn K (.ref fis_term) = true)
    (atext_of : PySem.W.nsIn K mainGlobals "text_of" = some (some (.ref ftext_of))) (ltext_of : K.lookup ftext_of = some ⟨octext_of, odtext_of, .func (PySem.W.fnOf "text_of" "text_of" (defArgs K04.s_text_of) (defBody K04.s_text_of) (defScope K04.s_text_of) .none kVtext_of dctext_of pmtext_of antext_of cdtext_of cttext_of), sltext_of⟩) (ctext_of : PySem.W.codeIn K cdtext_of "text_of" = true) (ktext_of : PySem.W.keepIn K (.ref ftext_of) = true)
    (aread_term : PySem.W.nsIn K mainGlobals "read_term" = some (some (.ref fread_term))) (lread_term : K.lookup fread_term = some ⟨ocread_term, odread_term, .func (PySem.W.fnOf "read_term" "read_term" (defArgs K04.s_read_term) (defBody K04.s_read_term) (defScope K04.s_read_term) .none kVread_term dcread_term pmread_term anread_term cdread_term ctread_term), slread_term⟩) (cread_term : PySem.W.codeIn K cdread_term "read_term" = true) (kread_term : PySem.W.keepIn K (.ref fread_term) = true)
    (acheck_term : PySem.W.nsIn K mainGlobals "check_term" = some (some (.ref fcheck_term))) (lcheck_term : K.lookup fcheck_term = some ⟨occheck_term, odcheck_term, .func (PySem.W.fnOf "check_term" "check_term" (defArgs K04.s_check_term) (defBody K04.s_check_term) (defScope K04.s_check_term) .none kVcheck_term dccheck_term pmcheck_term ancheck_term cdcheck_term ctcheck_term), slcheck_term⟩) (ccheck_term : PySem.W.codeIn K cdcheck_term "check_term" = true) (kcheck_term : PySem.W.keepIn K (.ref fcheck_term) = true)
    (ajoint_places : PySem.W.nsIn K mainGlobals "joint_places" = some (some (.ref fjoint_places))) (ljoint_places : K.lookup fjoint_places = some ⟨ocjoint_places, odjoint_places, .func (PySem.W.fnOf "joint_places" "joint_places" (defArgs K04.s_joint_places) (defBody K04.s_joint_places) (defScope K04.s_joint_places) .none kVjoint_places dcjoint_places pmjoint_places anjoint_places cdjoint_places ctjoint_places), sljoint_places⟩) (cjoint_places : PySem.W.codeIn K cdjoint_places "joint_places" = true) (kjoint_places : PySem.W.keepIn K (.ref fjoint_places) = true)
    (ahas_form : PySem.W.nsIn K mainGlobals "has_form" = some (some (.ref fhas_form))) (lhas_form : K.lookup fhas_form = some ⟨ochas_form, odhas_form, .func (PySem.W.fnOf "has_form" "has_form" (defArgs K04.s_has_form) (defBody K04.s_has_form) (defScope K04.s_has_form) .none kVhas_form dchas_form pmhas_form anhas_form cdhas_form cthas_form), slhas_form⟩) (chas_form : PySem.W.codeIn K cdhas_form "has_form" = true) (khas_form : PySem.W.keepIn K (.ref fhas_form) = true)
    (awords_in : PySem.W.nsIn K mainGlobals "words_in" = some (some (.ref fwords_in))) (lwords_in : K.lookup fwords_in = some ⟨ocwords_in, odwords_in, .func (PySem.W.fnOf "words_in" "words_in" (defArgs K04.s_words_in) (defBody K04.s_words_in) (defScope K04.s_words_in) .none kVwords_in dcwords_in pmwords_in anwords_in cdwords_in ctwords_in), slwords_in⟩) (cwords_in : PySem.W.codeIn K cdwords_in "words_in" = true) (kwords_in : PySem.W.keepIn K (.ref fwords_in) = true)
    (aparsed : PySem.W.nsIn K mainGlobals "parsed" = some (some (.ref fparsed))) (lparsed : K.lookup fparsed = some ⟨ocparsed, odparsed, .func (PySem.W.fnOf "parsed" "parsed" (defArgs K04.s_parsed) (defBody K04.s_parsed) (defScope K04.s_parsed) .none kVparsed dcparsed pmparsed anparsed cdparsed ctparsed), slparsed⟩) (cparsed : PySem.W.codeIn K cdparsed "parsed" = true) (kparsed : PySem.W.keepIn K (.ref fparsed) = true)
    (a_law_dice : PySem.W.nsIn K mainGlobals "_law_dice" = some (some (.ref f_law_dice))) (l_law_dice : K.lookup f_law_dice = some ⟨oc_law_dice, od_law_dice, .func (PySem.W.fnOf "_law_dice" "_law_dice" (defArgs K04.s__law_dice) (defBody K04.s__law_dice) (defScope K04.s__law_dice) .none kV_law_dice dc_law_dice pm_law_dice an_law_dice cd_law_dice ct_law_dice), sl_law_dice⟩) (c_law_dice : PySem.W.codeIn K cd_law_dice "_law_dice" = true) (k_law_dice : PySem.W.keepIn K (.ref f_law_dice) = true)
    (a_law_roll : PySem.W.nsIn K mainGlobals "_law_roll" = some (some (.ref f_law_roll))) (l_law_roll : K.lookup f_law_roll = some ⟨oc_law_roll, od_law_roll, .func (PySem.W.fnOf "_law_roll" "_law_roll" (defArgs K04.s__law_roll) (defBody K04.s__law_roll) (defScope K04.s__law_roll) .none kV_law_roll dc_law_roll pm_law_roll an_law_roll cd_law_roll ct_law_roll), sl_law_roll⟩) (c_law_roll : PySem.W.codeIn K cd_law_roll "_law_roll" = true) (k_law_roll : PySem.W.keepIn K (.ref f_law_roll) = true)
    (a_law_pick : PySem.W.nsIn K mainGlobals "_law_pick" = some (some (.ref f_law_pick))) (l_law_pick : K.lookup f_law_pick = some ⟨oc_law_pick, od_law_pick, .func (PySem.W.fnOf "_law_pick" "_law_pick" (defArgs K04.s__law_pick) (defBody K04.s__law_pick) (defScope K04.s__law_pick) .none kV_law_pick dc_law_pick pm_law_pick an_law_pick cd_law_pick ct_law_pick), sl_law_pick⟩) (c_law_pick : PySem.W.codeIn K cd_law_pick "_law_pick" = true) (k_law_pick : PySem.W.keepIn K (.ref f_law_pick) = true)
    (a_law_mixed : PySem.W.nsIn K mainGlobals "_law_mixed" = some (some (.ref f_law_mixed))) (l_law_mixed : K.lookup f_law_mixed = some ⟨oc_law_mixed, od_law_mixed, .func (PySem.W.fnOf "_law_mixed" "_law_mixed" (defArgs K04.s__law_mixed) (defBody K04.s__law_mixed) (defScope K04.s__law_mixed) .none kV_law_mixed dc_law_mixed pm_law_mixed an_law_mixed cd_law_mixed ct_law_mixed), sl_law_mixed⟩) (c_law_mixed : PySem.W.codeIn K cd_law_mixed "_law_mixed" = true) (k_law_mixed : PySem.W.keepIn K (.ref f_law_mixed) = true)
    (a_law_text : PySem.W.nsIn K mainGlobals "_law_text" = some (some (.ref f_law_text))) (l_law_text : K.lookup f_law_text = some ⟨oc_law_text, od_law_text, .func (PySem.W.fnOf "_law_text" "_law_text" (defArgs K04.s__law_text) (defBody K04.s__law_text) (defScope K04.s__law_text) .none kV_law_text dc_law_text pm_law_text an_law_text cd_law_text ct_law_text), sl_law_text⟩) (c_law_text : PySem.W.codeIn K cd_law_text "_law_text" = true) (k_law_text : PySem.W.keepIn K (.ref f_law_text) = true)
    (a_law_below : PySem.W.nsIn K mainGlobals "_law_below" = some (some (.ref f_law_below))) (l_law_below : K.lookup f_law_below = some ⟨oc_law_below, od_law_below, .func (PySem.W.fnOf "_law_below" "_law_below" (defArgs K04.s__law_below) (defBody K04.s__law_below) (defScope K04.s__law_below) .none kV_law_below dc_law_below pm_law_below an_law_below cd_law_below ct_law_below), sl_law_below⟩) (c_law_below : PySem.W.codeIn K cd_law_below "_law_below" = true) (k_law_below : PySem.W.keepIn K (.ref f_law_below) = true)
    (a_law_names : PySem.W.nsIn K mainGlobals "_law_names" = some (some (.ref f_law_names))) (l_law_names : K.lookup f_law_names = some ⟨oc_law_names, od_law_names, .func (PySem.W.fnOf "_law_names" "_law_names" (defArgs K04.s__law_names) (defBody K04.s__law_names) (defScope K04.s__law_names) .none kV_law_names dc_law_names pm_law_names an_law_names cd_law_names ct_law_names), sl_law_names⟩) (c_law_names : PySem.W.codeIn K cd_law_names "_law_names" = true) (k_law_names : PySem.W.keepIn K (.ref f_law_names) = true)
    (a_law_term : PySem.W.nsIn K mainGlobals "_law_term" = some (some (.ref f_law_term))) (l_law_term : K.lookup f_law_term = some ⟨oc_law_term, od_law_term, .func (PySem.W.fnOf "_law_term" "_law_term" (defArgs K04.s__law_term) (defBody K04.s__law_term) (defScope K04.s__law_term) .none kV_law_term dc_law_term pm_law_term an_law_term cd_law_term ct_law_term), sl_law_term⟩) (c_law_term : PySem.W.codeIn K cd_law_term "_law_term" = true) (k_law_term : PySem.W.keepIn K (.ref f_law_term) = true)
    (a_law_chain : PySem.W.nsIn K mainGlobals "_law_chain" = some (some (.ref f_law_chain))) (l_law_chain : K.lookup f_law_chain = some ⟨oc_law_chain, od_law_chain, .func (PySem.W.fnOf "_law_chain" "_law_chain" (defArgs K04.s__law_chain) (defBody K04.s__law_chain) (defScope K04.s__law_chain) .none kV_law_chain dc_law_chain pm_law_chain an_law_chain cd_law_chain ct_law_chain), sl_law_chain⟩) (c_law_chain : PySem.W.codeIn K cd_law_chain "_law_chain" = true) (k_law_chain : PySem.W.keepIn K (.ref f_law_chain) = true)
    (a_law_doubled : PySem.W.nsIn K mainGlobals "_law_doubled" = some (some (.ref f_law_doubled))) (l_law_doubled : K.lookup f_law_doubled = some ⟨oc_law_doubled, od_law_doubled, .func (PySem.W.fnOf "_law_doubled" "_law_doubled" (defArgs K04.s__law_doubled) (defBody K04.s__law_doubled) (defScope K04.s__law_doubled) .none kV_law_doubled dc_law_doubled pm_law_doubled an_law_doubled cd_law_doubled ct_law_doubled), sl_law_doubled⟩) (c_law_doubled : PySem.W.codeIn K cd_law_doubled "_law_doubled" = true) (k_law_doubled : PySem.W.keepIn K (.ref f_law_doubled) = true)
    (a_law_name_end : PySem.W.nsIn K mainGlobals "_law_name_end" = some (some (.ref f_law_name_end))) (l_law_name_end : K.lookup f_law_name_end = some ⟨oc_law_name_end, od_law_name_end, .func (PySem.W.fnOf "_law_name_end" "_law_name_end" (defArgs K04.s__law_name_end) (defBody K04.s__law_name_end) (defScope K04.s__law_name_end) .none kV_law_name_end dc_law_name_end pm_law_name_end an_law_name_end cd_law_name_end ct_law_name_end), sl_law_name_end⟩) (c_law_name_end : PySem.W.codeIn K cd_law_name_end "_law_name_end" = true) (k_law_name_end : PySem.W.keepIn K (.ref f_law_name_end) = true)
    (a_law_read_at : PySem.W.nsIn K mainGlobals "_law_read_at" = some (some (.ref f_law_read_at))) (l_law_read_at : K.lookup f_law_read_at = some ⟨oc_law_read_at, od_law_read_at, .func (PySem.W.fnOf "_law_read_at" "_law_read_at" (defArgs K04.s__law_read_at) (defBody K04.s__law_read_at) (defScope K04.s__law_read_at) .none kV_law_read_at dc_law_read_at pm_law_read_at an_law_read_at cd_law_read_at ct_law_read_at), sl_law_read_at⟩) (c_law_read_at : PySem.W.codeIn K cd_law_read_at "_law_read_at" = true) (k_law_read_at : PySem.W.keepIn K (.ref f_law_read_at) = true)
    (a_law_read : PySem.W.nsIn K mainGlobals "_law_read" = some (some (.ref f_law_read))) (l_law_read : K.lookup f_law_read = some ⟨oc_law_read, od_law_read, .func (PySem.W.fnOf "_law_read" "_law_read" (defArgs K04.s__law_read) (defBody K04.s__law_read) (defScope K04.s__law_read) .none kV_law_read dc_law_read pm_law_read an_law_read cd_law_read ct_law_read), sl_law_read⟩) (c_law_read : PySem.W.codeIn K cd_law_read "_law_read" = true) (k_law_read : PySem.W.keepIn K (.ref f_law_read) = true)
    (a_law_told : PySem.W.nsIn K mainGlobals "_law_told" = some (some (.ref f_law_told))) (l_law_told : K.lookup f_law_told = some ⟨oc_law_told, od_law_told, .func (PySem.W.fnOf "_law_told" "_law_told" (defArgs K04.s__law_told) (defBody K04.s__law_told) (defScope K04.s__law_told) .none kV_law_told dc_law_told pm_law_told an_law_told cd_law_told ct_law_told), sl_law_told⟩) (c_law_told : PySem.W.codeIn K cd_law_told "_law_told" = true) (k_law_told : PySem.W.keepIn K (.ref f_law_told) = true)
    (a_law_bent : PySem.W.nsIn K mainGlobals "_law_bent" = some (some (.ref f_law_bent))) (l_law_bent : K.lookup f_law_bent = some ⟨oc_law_bent, od_law_bent, .func (PySem.W.fnOf "_law_bent" "_law_bent" (defArgs K04.s__law_bent) (defBody K04.s__law_bent) (defScope K04.s__law_bent) .none kV_law_bent dc_law_bent pm_law_bent an_law_bent cd_law_bent ct_law_bent), sl_law_bent⟩) (c_law_bent : PySem.W.codeIn K cd_law_bent "_law_bent" = true) (k_law_bent : PySem.W.keepIn K (.ref f_law_bent) = true)
    (alaw : PySem.W.nsIn K mainGlobals "law" = some (some (.ref flaw))) (llaw : K.lookup flaw = some ⟨oclaw, odlaw, .func (PySem.W.fnOf "law" "law" (defArgs K04.s_law) (defBody K04.s_law) (defScope K04.s_law) .none kVlaw dclaw pmlaw anlaw cdlaw ctlaw), sllaw⟩) (claw : PySem.W.codeIn K cdlaw "law" = true) (klaw : PySem.W.keepIn K (.ref flaw) = true)
    (zabs : PySem.W.nsIn K mainGlobals "abs" = some none)
    (zint : PySem.W.nsIn K mainGlobals "int" = some none)
    (zisinstance : PySem.W.nsIn K mainGlobals "isinstance" = some none)
    (zlen : PySem.W.nsIn K mainGlobals "len" = some none)
    (zlist : PySem.W.nsIn K mainGlobals "list" = some none)
    (zmax : PySem.W.nsIn K mainGlobals "max" = some none)
    (zmin : PySem.W.nsIn K mainGlobals "min" = some none)
    (zrange : PySem.W.nsIn K mainGlobals "range" = some none)
    (zset : PySem.W.nsIn K mainGlobals "set" = some none)
    (zsorted : PySem.W.nsIn K mainGlobals "sorted" = some none)
    (zstr : PySem.W.nsIn K mainGlobals "str" = some none)
    (ztuple : PySem.W.nsIn K mainGlobals "tuple" = some none)
    {CParseError : Addr} (nParseError : PySem.W.nsIn K mainGlobals "ParseError" = some (some (.ref CParseError))) (xParseError : PySem.W.excIn K CParseError [.type "ValueError", .type "Exception", .type "BaseException", .type "object"] "ValueError.__new__" = true) (kParseError : PySem.W.keepIn K (.ref CParseError) = true) (bParseError : PySem.W.subIn K (.ref CParseError) (.type "BaseException") = some true) (tParseError : PySem.W.typeIn K (.ref CParseError) = some (.type "type")) (iParseError : PySem.W.isClsIn K CParseError = true) (sParseError : PySem.W.subIn K (.ref CParseError) (.ref CParseError) = some true)
    {tMAX_PLACES : Tok} (zMAX_PLACES : PySem.W.nsIn K mainGlobals "MAX_PLACES" = some (some (.int 3 tMAX_PLACES)))
    {tLONGEST_NAME : Tok} (zLONGEST_NAME : PySem.W.nsIn K mainGlobals "LONGEST_NAME" = some (some (.int 8 tLONGEST_NAME)))
    : ∃ T : K04.Tx K mg, T.alaw = flaw ∧ T.dlaw = PySem.W.fnOf "law" "law" (defArgs K04.s_law) (defBody K04.s_law) (defScope K04.s_law) .none kVlaw dclaw pmlaw anlaw cdlaw ctlaw := by
  have Fwritten := fun_mk (st := K04.s_written) lwritten cwritten kwritten
  have Bwritten := Fwritten.binds (ps := ["term"]) fun _ _ _ _ _ _ us hl => match us, hl with | [_], _ => rfl
  have Fis_name := fun_mk (st := K04.s_is_name) lis_name cis_name kis_name
  have Bis_name := Fis_name.binds (ps := ["value"]) fun _ _ _ _ _ _ us hl => match us, hl with | [_], _ => rfl
  have Fis_term := fun_mk (st := K04.s_is_term) lis_term cis_term kis_term
  have Bis_term := Fis_term.binds (ps := ["value"]) fun _ _ _ _ _ _ us hl => match us, hl with | [_], _ => rfl
  have Ftext_of := fun_mk (st := K04.s_text_of) ltext_of ctext_of ktext_of
  have Btext_of := Ftext_of.binds (ps := ["term"]) fun _ _ _ _ _ _ us hl => match us, hl with | [_], _ => rfl
  have Fread_term := fun_mk (st := K04.s_read_term) lread_term cread_term kread_term
  have Bread_term := Fread_term.binds (ps := ["text"]) fun _ _ _ _ _ _ us hl => match us, hl with | [_], _ => rfl
  have Fcheck_term := fun_mk (st := K04.s_check_term) lcheck_term ccheck_term kcheck_term
  have Bcheck_term := Fcheck_term.binds (ps := ["value"]) fun _ _ _ _ _ _ us hl => match us, hl with | [_], _ => rfl
  have Fjoint_places := fun_mk (st := K04.s_joint_places) ljoint_places cjoint_places kjoint_places
  have Bjoint_places := Fjoint_places.binds (ps := ["values"]) fun _ _ _ _ _ _ us hl => match us, hl with | [_], _ => rfl
  have Fhas_form := fun_mk (st := K04.s_has_form) lhas_form chas_form khas_form
  have Bhas_form := Fhas_form.binds (ps := ["value"]) fun _ _ _ _ _ _ us hl => match us, hl with | [_], _ => rfl
  have Fwords_in := fun_mk (st := K04.s_words_in) lwords_in cwords_in kwords_in
  have Bwords_in := Fwords_in.binds (ps := ["text"]) fun _ _ _ _ _ _ us hl => match us, hl with | [_], _ => rfl
  have Fparsed := fun_mk (st := K04.s_parsed) lparsed cparsed kparsed
  have Bparsed := Fparsed.binds (ps := ["words"]) fun _ _ _ _ _ _ us hl => match us, hl with | [_], _ => rfl
  have F_law_dice := fun_mk (st := K04.s__law_dice) l_law_dice c_law_dice k_law_dice
  have B_law_dice := F_law_dice.binds (ps := ["script", "spot"]) fun _ _ _ _ _ _ us hl => match us, hl with | [_, _], _ => rfl
  have F_law_roll := fun_mk (st := K04.s__law_roll) l_law_roll c_law_roll k_law_roll
  have B_law_roll := F_law_roll.binds (ps := ["dice", "many"]) fun _ _ _ _ _ _ us hl => match us, hl with | [_, _], _ => rfl
  have F_law_pick := fun_mk (st := K04.s__law_pick) l_law_pick c_law_pick k_law_pick
  have B_law_pick := F_law_pick.binds (ps := ["dice", "items"]) fun _ _ _ _ _ _ us hl => match us, hl with | [_, _], _ => rfl
  have F_law_mixed := fun_mk (st := K04.s__law_mixed) l_law_mixed c_law_mixed k_law_mixed
  have B_law_mixed := F_law_mixed.binds (ps := ["dice", "items"]) fun _ _ _ _ _ _ us hl => match us, hl with | [_, _], _ => rfl
  have F_law_text := fun_mk (st := K04.s__law_text) l_law_text c_law_text k_law_text
  have B_law_text := F_law_text.binds (ps := ["term"]) fun _ _ _ _ _ _ us hl => match us, hl with | [_], _ => rfl
  have F_law_below := fun_mk (st := K04.s__law_below) l_law_below c_law_below k_law_below
  have B_law_below := F_law_below.binds (ps := ["term"]) fun _ _ _ _ _ _ us hl => match us, hl with | [_], _ => rfl
  have F_law_names := fun_mk (st := K04.s__law_names) l_law_names c_law_names k_law_names
  have B_law_names := F_law_names.binds (ps := ["dice", "few"]) fun _ _ _ _ _ _ us hl => match us, hl with | [_, _], _ => rfl
  have F_law_term := fun_mk (st := K04.s__law_term) l_law_term c_law_term k_law_term
  have B_law_term := F_law_term.binds (ps := ["dice", "names", "deep"]) fun _ _ _ _ _ _ us hl => match us, hl with | [_, _, _], _ => rfl
  have F_law_chain := fun_mk (st := K04.s__law_chain) l_law_chain c_law_chain k_law_chain
  have B_law_chain := F_law_chain.binds (ps := ["total"]) fun _ _ _ _ _ _ us hl => match us, hl with | [_], _ => rfl
  have F_law_doubled := fun_mk (st := K04.s__law_doubled) l_law_doubled c_law_doubled k_law_doubled
  have B_law_doubled := F_law_doubled.binds (ps := ["total"]) fun _ _ _ _ _ _ us hl => match us, hl with | [_], _ => rfl
  have F_law_name_end := fun_mk (st := K04.s__law_name_end) l_law_name_end c_law_name_end k_law_name_end
  have B_law_name_end := F_law_name_end.binds (ps := ["text", "at"]) fun _ _ _ _ _ _ us hl => match us, hl with | [_, _], _ => rfl
  have F_law_read_at := fun_mk (st := K04.s__law_read_at) l_law_read_at c_law_read_at k_law_read_at
  have B_law_read_at := F_law_read_at.binds (ps := ["text", "at"]) fun _ _ _ _ _ _ us hl => match us, hl with | [_, _], _ => rfl
  have F_law_read := fun_mk (st := K04.s__law_read) l_law_read c_law_read k_law_read
  have B_law_read := F_law_read.binds (ps := ["text"]) fun _ _ _ _ _ _ us hl => match us, hl with | [_], _ => rfl
  have F_law_told := fun_mk (st := K04.s__law_told) l_law_told c_law_told k_law_told
  have B_law_told := F_law_told.binds (ps := ["text"]) fun _ _ _ _ _ _ us hl => match us, hl with | [_], _ => rfl
  have F_law_bent := fun_mk (st := K04.s__law_bent) l_law_bent c_law_bent k_law_bent
  have B_law_bent := F_law_bent.binds (ps := ["dice", "text"]) fun _ _ _ _ _ _ us hl => match us, hl with | [_, _], _ => rfl
  have Flaw := fun_mk (st := K04.s_law) llaw claw klaw
  have Blaw := Flaw.binds (ps := ["script"]) fun _ _ _ _ _ _ us hl => match us, hl with | [_], _ => rfl
  exact ⟨{ b_abs := PySem.W.mg_none_of X G zabs, b_int := PySem.W.mg_none_of X G zint, b_isinstance := PySem.W.mg_none_of X G zisinstance, b_len := PySem.W.mg_none_of X G zlen, b_list := PySem.W.mg_none_of X G zlist, b_max := PySem.W.mg_none_of X G zmax, b_min := PySem.W.mg_none_of X G zmin, b_range := PySem.W.mg_none_of X G zrange, b_set := PySem.W.mg_none_of X G zset, b_sorted := PySem.W.mg_none_of X G zsorted, b_str := PySem.W.mg_none_of X G zstr, b_tuple := PySem.W.mg_none_of X G ztuple, CParseError := CParseError, gParseError := PySem.W.mg_of X G nParseError, xParseError := xParseError, kParseError := kParseError, bParseError := bParseError, tParseError := tParseError, eParseError := Kx.exm_self bParseError iParseError tParseError sParseError, c_MAX_PLACES := ⟨_, PySem.W.mg_of X G zMAX_PLACES⟩, c_LONGEST_NAME := ⟨_, PySem.W.mg_of X G zLONGEST_NAME⟩, awritten := fwritten, dwritten := _, fwritten := Fwritten, gwritten := PySem.W.mg_of X G awritten, nwritten := Bwritten, ais_name := fis_name, dis_name := _, fis_name := Fis_name, gis_name := PySem.W.mg_of X G ais_name, nis_name := Bis_name, ais_term := fis_term, dis_term := _, fis_term := Fis_term, gis_term := PySem.W.mg_of X G ais_term, nis_term := Bis_term, atext_of := ftext_of, dtext_of := _, ftext_of := Ftext_of, gtext_of := PySem.W.mg_of X G atext_of, ntext_of := Btext_of, aread_term := fread_term, dread_term := _, fread_term := Fread_term, gread_term := PySem.W.mg_of X G aread_term, nread_term := Bread_term, acheck_term := fcheck_term, dcheck_term := _, fcheck_term := Fcheck_term, gcheck_term := PySem.W.mg_of X G acheck_term, ncheck_term := Bcheck_term, ajoint_places := fjoint_places, djoint_places := _, fjoint_places := Fjoint_places, gjoint_places := PySem.W.mg_of X G ajoint_places, njoint_places := Bjoint_places, ahas_form := fhas_form, dhas_form := _, fhas_form := Fhas_form, ghas_form := PySem.W.mg_of X G ahas_form, nhas_form := Bhas_form, awords_in := fwords_in, dwords_in := _, fwords_in := Fwords_in, gwords_in := PySem.W.mg_of X G awords_in, nwords_in := Bwords_in, aparsed := fparsed, dparsed := _, fparsed := Fparsed, gparsed := PySem.W.mg_of X G aparsed, nparsed := Bparsed, a_law_dice := f_law_dice, d_law_dice := _, f_law_dice := F_law_dice, g_law_dice := PySem.W.mg_of X G a_law_dice, n_law_dice := B_law_dice, a_law_roll := f_law_roll, d_law_roll := _, f_law_roll := F_law_roll, g_law_roll := PySem.W.mg_of X G a_law_roll, n_law_roll := B_law_roll, a_law_pick := f_law_pick, d_law_pick := _, f_law_pick := F_law_pick, g_law_pick := PySem.W.mg_of X G a_law_pick, n_law_pick := B_law_pick, a_law_mixed := f_law_mixed, d_law_mixed := _, f_law_mixed := F_law_mixed, g_law_mixed := PySem.W.mg_of X G a_law_mixed, n_law_mixed := B_law_mixed, a_law_text := f_law_text, d_law_text := _, f_law_text := F_law_text, g_law_text := PySem.W.mg_of X G a_law_text, n_law_text := B_law_text, a_law_below := f_law_below, d_law_below := _, f_law_below := F_law_below, g_law_below := PySem.W.mg_of X G a_law_below, n_law_below := B_law_below, a_law_names := f_law_names, d_law_names := _, f_law_names := F_law_names, g_law_names := PySem.W.mg_of X G a_law_names, n_law_names := B_law_names, a_law_term := f_law_term, d_law_term := _, f_law_term := F_law_term, g_law_term := PySem.W.mg_of X G a_law_term, n_law_term := B_law_term, a_law_chain := f_law_chain, d_law_chain := _, f_law_chain := F_law_chain, g_law_chain := PySem.W.mg_of X G a_law_chain, n_law_chain := B_law_chain, a_law_doubled := f_law_doubled, d_law_doubled := _, f_law_doubled := F_law_doubled, g_law_doubled := PySem.W.mg_of X G a_law_doubled, n_law_doubled := B_law_doubled, a_law_name_end := f_law_name_end, d_law_name_end := _, f_law_name_end := F_law_name_end, g_law_name_end := PySem.W.mg_of X G a_law_name_end, n_law_name_end := B_law_name_end, a_law_read_at := f_law_read_at, d_law_read_at := _, f_law_read_at := F_law_read_at, g_law_read_at := PySem.W.mg_of X G a_law_read_at, n_law_read_at := B_law_read_at, a_law_read := f_law_read, d_law_read := _, f_law_read := F_law_read, g_law_read := PySem.W.mg_of X G a_law_read, n_law_read := B_law_read, a_law_told := f_law_told, d_law_told := _, f_law_told := F_law_told, g_law_told := PySem.W.mg_of X G a_law_told, n_law_told := B_law_told, a_law_bent := f_law_bent, d_law_bent := _, f_law_bent := F_law_bent, g_law_bent := PySem.W.mg_of X G a_law_bent, n_law_bent := B_law_bent, alaw := flaw, dlaw := _, flaw := Flaw, glaw := PySem.W.mg_of X G alaw, nlaw := Blaw }, rfl, rfl⟩

namespace K04
theorem gOf {P : Program} {w : World} {K : PySem.W.Frag} {mg : Str → Option Value} {base : Heap} {k : Nat} {f : Addr} {fd : FuncData} {ps : List Str} {sp : Sp} (F : FnOk P w K mg base CX0 k f fd ps sp) : FnG P w K mg base k f fd ps sp :=
  ⟨F.len, fun A outer s H args us vs Q E _ hr e0 b r h => F.run A outer s H args us vs Q E hr e0 b r h⟩
theorem ends {P : Program} {w : World} {K : PySem.W.Frag} {mg : Str → Option Value} {fa flaw : Addr} {kV dc pm cd ct : Value} {an : Option Addr}
    (hT : ∃ T : Tx K mg, T.alaw = flaw ∧ T.dlaw = PySem.W.fnOf "law" "law" (defArgs s_law) (defBody s_law) (defScope s_law) .none kV dc pm an cd ct) (hmg : mg "law" = some (.ref fa)) :
    ∃ fd : FuncData, (∀ (s : Shared) (u : Value), BindsTo s fd ⟨[u], []⟩ [("script", u)]) ∧ ∀ base : Heap, K.In base → base.Ns mainGlobals mg → FnG P w K mg base 160 fa fd ["script"] (spLaw K) := by
  obtain ⟨T, e1, e2⟩ := hT
  have z := T.glaw
  rw [hmg] at z
  cases z
  exact ⟨T.dlaw, fun s u => by rw [e2]; exact .of_eq rfl, fun base _ _ => gOf (ok_law T)⟩
theorem walk {l : PySem.W.OpenLaw} {q : Program} {loose : List Str} {XP : (Str → Option Value) → Heap → Prop} {YP : World → Heap → Prop} {d : DefRec} {K : Params → PySem.W.Frag} (hn : l.most = some 63) (hdf : d.params.defaults = [])
    (hY : ∀ (w : World) (h : Heap), YP w h → (K w.params).In h)
    (F : ∀ (w : World) (mg : Str → Option Value) (fa : Addr) (h : Heap), (K w.params).In h → h.Ns mainGlobals mg → mg d.name = some (.ref fa) →
      ∃ fd : FuncData, (∀ (s : Shared) (u : Value), BindsTo s fd ⟨[u], []⟩ [("script", u)]) ∧ ∀ base : Heap, (K w.params).In base → base.Ns mainGlobals mg → FnG l.prog w (K w.params) mg base 160 fa fd ["script"] (spLaw (K w.params))) :
    PySem.W.WalkO q loose XP YP l.row.toRowW d [] (fun f vs => PySem.call f vs) :=
  walk_ofG (n := 63) (k := 160) (x := "script") (sp := fun w => spLaw (K w.params)) hn (by decide) hdf ⟨rfl, by decide, by decide⟩ hY F fun _ _ a ns _ _ hS => ⟨a, ns, rfl, hS, fun _ => rfl⟩
end K04
open PySem PySem.W PyProof.Rows
set_option maxRecDepth 100000 in
set_option maxHeartbeats 0 in
theorem PySem.Challenge.cw_shownpart_k04_texts_of_terms_holds : PySem.Challenge.rw_shownpart_k04_texts_of_terms.Holds := by
  w_on; o_law; k_head; (case hw => w_witness2)
  k_fill
  refine K04.walk (l := PySem.Challenge.rw_shownpart_k04_texts_of_terms) rfl rfl (fun w h Y => PySem.W.kIn_of Y) ?F
  case F =>
    intro w mg fa h KX G hmg
    refine' K04.ends (K04.tx_mk KX G ?awritten ?lwritten ?cwritten ?kwritten ?ais_name ?lis_name ?cis_name ?kis_name ?ais_term ?lis_term ?cis_term ?kis_term ?atext_of ?ltext_of ?ctext_of ?ktext_of ?aread_term ?lread_term ?cread_term ?kread_term ?acheck_term ?lcheck_term ?ccheck_term ?kcheck_term ?ajoint_places ?ljoint_places ?cjoint_places ?kjoint_places ?ahas_form ?lhas_form ?chas_form ?khas_form ?awords_in ?lwords_in ?cwords_in ?kwords_in ?aparsed ?lparsed ?cparsed ?kparsed ?a_law_dice ?l_law_dice ?c_law_dice ?k_law_dice ?a_law_roll ?l_law_roll ?c_law_roll ?k_law_roll ?a_law_pick ?l_law_pick ?c_law_pick ?k_law_pick ?a_law_mixed ?l_law_mixed ?c_law_mixed ?k_law_mixed ?a_law_text ?l_law_text ?c_law_text ?k_law_text ?a_law_below ?l_law_below ?c_law_below ?k_law_below ?a_law_names ?l_law_names ?c_law_names ?k_law_names ?a_law_term ?l_law_term ?c_law_term ?k_law_term ?a_law_chain ?l_law_chain ?c_law_chain ?k_law_chain ?a_law_doubled ?l_law_doubled ?c_law_doubled ?k_law_doubled ?a_law_name_end ?l_law_name_end ?c_law_name_end ?k_law_name_end ?a_law_read_at ?l_law_read_at ?c_law_read_at ?k_law_read_at ?a_law_read ?l_law_read ?c_law_read ?k_law_read ?a_law_told ?l_law_told ?c_law_told ?k_law_told ?a_law_bent ?l_law_bent ?c_law_bent ?k_law_bent ?alaw ?llaw ?claw ?klaw ?zabs ?zint ?zisinstance ?zlen ?zlist ?zmax ?zmin ?zrange ?zset ?zsorted ?zstr ?ztuple ?nParseError ?xParseError ?kParseError ?bParseError ?tParseError ?iParseError ?sParseError ?zMAX_PLACES ?zLONGEST_NAME) hmg
    (case awritten => k_is); (case lwritten => k_is); (case cwritten => k_is); (case kwritten => k_is); (case ais_name => k_is); (case lis_name => k_is); (case cis_name => k_is); (case kis_name => k_is)
    (case ais_term => k_is); (case lis_term => k_is); (case cis_term => k_is); (case kis_term => k_is); (case atext_of => k_is); (case ltext_of => k_is); (case ctext_of => k_is); (case ktext_of => k_is)
    (case aread_term => k_is); (case lread_term => k_is); (case cread_term => k_is); (case kread_term => k_is); (case acheck_term => k_is); (case lcheck_term => k_is); (case ccheck_term => k_is); (case kcheck_term => k_is)
    (case ajoint_places => k_is); (case ljoint_places => k_is); (case cjoint_places => k_is); (case kjoint_places => k_is); (case ahas_form => k_is); (case lhas_form => k_is); (case chas_form => k_is); (case khas_form => k_is)
    (case awords_in => k_is); (case lwords_in => k_is); (case cwords_in => k_is); (case kwords_in => k_is); (case aparsed => k_is); (case lparsed => k_is); (case cparsed => k_is); (case kparsed => k_is)
    (case a_law_dice => k_is); (case l_law_dice => k_is); (case c_law_dice => k_is); (case k_law_dice => k_is); (case a_law_roll => k_is); (case l_law_roll => k_is); (case c_law_roll => k_is); (case k_law_roll => k_is)
    (case a_law_pick => k_is); (case l_law_pick => k_is); (case c_law_pick => k_is); (case k_law_pick => k_is); (case a_law_mixed => k_is); (case l_law_mixed => k_is); (case c_law_mixed => k_is); (case k_law_mixed => k_is)
    (case a_law_text => k_is); (case l_law_text => k_is); (case c_law_text => k_is); (case k_law_text => k_is); (case a_law_below => k_is); (case l_law_below => k_is); (case c_law_below => k_is); (case k_law_below => k_is)
    (case a_law_names => k_is); (case l_law_names => k_is); (case c_law_names => k_is); (case k_law_names => k_is); (case a_law_term => k_is); (case l_law_term => k_is); (case c_law_term => k_is); (case k_law_term => k_is)
    (case a_law_chain => k_is); (case l_law_chain => k_is); (case c_law_chain => k_is); (case k_law_chain => k_is); (case a_law_doubled => k_is); (case l_law_doubled => k_is); (case c_law_doubled => k_is); (case k_law_doubled => k_is)
    (case a_law_name_end => k_is); (case l_law_name_end => k_is); (case c_law_name_end => k_is); (case k_law_name_end => k_is); (case a_law_read_at => k_is); (case l_law_read_at => k_is); (case c_law_read_at => k_is); (case k_law_read_at => k_is)
    (case a_law_read => k_is); (case l_law_read => k_is); (case c_law_read => k_is); (case k_law_read => k_is); (case a_law_told => k_is); (case l_law_told => k_is); (case c_law_told => k_is); (case k_law_told => k_is)
    (case a_law_bent => k_is); (case l_law_bent => k_is); (case c_law_bent => k_is); (case k_law_bent => k_is); (case alaw => k_is); (case llaw => k_is); (case claw => k_is); (case klaw => k_is)
    (case zabs => k_is); (case zint => k_is); (case zisinstance => k_is); (case zlen => k_is); (case zlist => k_is); (case zmax => k_is); (case zmin => k_is); (case zrange => k_is)
    (case zset => k_is); (case zsorted => k_is); (case zstr => k_is); (case ztuple => k_is); (case nParseError => k_is); (case xParseError => k_exc); (case kParseError => k_is); (case bParseError => k_is)
    (case tParseError => k_is); (case iParseError => k_is); (case sParseError => first | rfl | k_is); (case zMAX_PLACES => k_is); (case zLONGEST_NAME => k_is)
