import PyProof.Rows.All
import Wide.All
import OpenK.AllK
import Wide.FinOn
import HandS.ForMost
import HandS.TupSets
import HandS.Strs
import KE.SortData
import HandS.IsInst
import HandS.SetKeys
import HandS.StrMore
import HandS.Star
import HandS.TupAny
import HandS.Wide
import HandS.Style
import HandS.Codes
import PyProof.DictMoreH
import HandS.TupLen
import HandS.Conv
import HandS.SetBool
import HandS.ReplaceLit
import HandS.ReplaceDef
import HandS.Text
import HandS.WordsExc
import HandS.TryOnly
import KE.KParD
import PyProof.Rows.SortShellSt
import HandS.Lambda
import HandS.TryMany
import KE.KDictItemsList
import KE.KDictZip
import HandS.Iter
import HandS.Exc
import HandS.ExcValue
import HandS.NoneIn
import PyProof.StrBlock2
import HandS.EndTab
import KE.KNestM
import PySem.Challenge.RW_shownpart_k03_terms_replaced_and_renamed
set_option Elab.async false
set_option linter.all false
set_option maxRecDepth 100000
set_option maxHeartbeats 4000000
/-! Sets of tuples whose items are ints or texts: made from a list, and counted. -/
namespace Kx
open PySem PySem.Spec PyProof.Rows L2

/-- the tuple at b holds the keys k -/
def TupK (P : Program) (w : World) (h : Heap) (k : List Key) (b : Addr) : Prop := IsTupleKey (mixKind P w) h k b
def hsK (P : Program) (w : World) (k : List Key) : Int := tupleKeyHash (mixKind P w) k
abbrev Row := Addr × List Key
def rowsK (P : Program) (w : World) (L : List Row) : List (Int × Value) := L.map fun p => (hsK P w p.2, Value.ref p.1)
def keysK (L : List Row) : List (List Key) := L.map Prod.snd

/-- the c-th step of the way of h -/
def stp (t : SetTable) (h : Int) (c : Nat) : SetTable.Probe := nth t.mask (runAt t.mask (SetTable.bits h % (t.mask + 1)) (SetTable.bits h)) c
theorem stp_j (t : SetTable) (h : Int) (c : Nat) : (stp t h c).j = way t.mask h c := rfl
theorem stp_add (t : SetTable) (h : Int) (c q : Nat) : nth t.mask (stp t h c) q = stp t h (c + q) := (nth_add t.mask c _ q).symm
theorem nth_nodummy (m : Nat) : ∀ (n : Nat) (p : SetTable.Probe), p.dummy = none → (nth m p n).dummy = none := by
  intro n
  induction n with
  | zero => exact fun p h => h
  | succ n ih =>
    intro p h
    apply ih (adv m p)
    show (adv m p).dummy = none
    simp only [adv]
    split <;> exact h
theorem stp_nodummy (t : SetTable) (h : Int) (c : Nat) : (stp t h c).dummy = none := nth_nodummy _ c _ rfl

section
variable {P : Program} {w : World} {A : Around} {E : Value → Shared → Prop} {s : Shared}

theorem items_plain {k : List Key} {vs : List Value} (h : ItemsAre (mixKind P w) k vs) :
    ∀ v, v ∈ vs → (∃ i t, v = Value.int i t) ∨ ∃ x t, v = Value.str x t := by
  induction h with
  | nil => exact fun v hv => nomatch hv
  | cons h1 _ ih =>
    intro v hv
    rcases List.mem_cons.mp hv with e | hv
    · subst e
      rcases keyIs_shape h1 with ⟨i, t, _, e⟩ | ⟨x, t, _, e⟩
      · exact .inl ⟨i, t, e⟩
      · exact .inr ⟨x, t, e⟩
    · exact ih v hv
/-- a tuple of ints and texts is of no class statement -/
theorem ofClass_tupK {k : List Key} {b : Addr} {Q : Bool → Shared → Prop} (hk : TupK P w s.heap k b) (q : Q false s) :
    wpAny (model P w) A (ofAClassStatement 8 (.ref b)) Q E s := by
  have ty := IsTupleKey.typeIs hk
  obtain ⟨o, its, n, h1, _, h2, h3⟩ := hk
  have pl := items_plain h3
  unfold ofAClassStatement
  apply wpAny_bind (wpAny_typeOf ty _)
  dsimp only
  have tt : (("tuple" : String) == "tuple") = true := by decide
  rw [if_pos tt]
  try apply wpAny_bind (wpAny_pure _)
  simp only [Bool.not_true, Bool.false_eq_true, if_false]
  show wpAny _ _ (seqItems? (.ref b) >>= _) _ _ s
  apply wpAny_bind (wpAny_seqItems h1 h2 _)
  dsimp only
  apply wpAny_bind
  show wpAny _ _ (forIn its _ _) _ _ s
  rw [← Array.forIn_toList]
  apply wpAny_forIn_list _ (fun rest r s' => r.1 = none ∧ s' = s ∧ ∀ v, v ∈ rest → (∃ i t, v = Value.int i t) ∨ ∃ x t, v = Value.str x t) _ _ _ _ _ ⟨rfl, rfl, pl⟩
  · rintro v rest r s' ⟨hr, rfl, hall⟩
    have e0 : ofAClassStatement 7 v = pure false := by
      rcases hall v List.mem_cons_self with ⟨i, t, rfl⟩ | ⟨x, t, rfl⟩ <;> rfl
    rw [e0]
    apply wpAny_bind (wpAny_pure _)
    simp only [Bool.false_eq_true, if_false]
    exact wpAny_pure ⟨rfl, rfl, fun u hu => hall u (List.mem_cons_of_mem _ hu)⟩
  · rintro ⟨r1, r2⟩ s' ⟨hr, rfl, _⟩
    cases hr
    exact wpAny_pure q
/-- whatever is said of a tuple's hash: a Bool, and the state stays -/
theorem byValue_tupK {k : List Key} {b : Addr} {Q : Bool → Shared → Prop} (hk : TupK P w s.heap k b) (q : ∀ c, Q c s) :
    wpAny (model P w) A (hashByValue 8 (.ref b)) Q E s := by
  have ty := IsTupleKey.typeIs hk
  obtain ⟨o, its, n, h1, _, h2, h3⟩ := hk
  have pl := items_plain h3
  unfold hashByValue
  apply wpAny_bind (wpAny_specialOf ty F.slot_tuple_hash.lookup _)
  show wpAny _ _ (seqItems? (.ref b) >>= _) _ _ s
  apply wpAny_bind (wpAny_seqItems h1 h2 _)
  apply wpAny_bind
  show wpAny _ _ (forIn its _ _) _ _ s
  rw [← Array.forIn_toList]
  apply wpAny_forIn_list _ (fun rest r s' => s' = s ∧ ∀ v, v ∈ rest → (∃ i t, v = Value.int i t) ∨ ∃ x t, v = Value.str x t) _ _ _ _ _ ⟨rfl, pl⟩
  · rintro v rest r s' ⟨rfl, hall⟩
    have tl : ∀ v, v ∈ rest → (∃ i t, v = Value.int i t) ∨ ∃ x t, v = Value.str x t := fun u hu => hall u (List.mem_cons_of_mem _ hu)
    have e0 : ∃ c, hashByValue 7 v = pure c := by
      rcases hall v List.mem_cons_self with ⟨i, t, rfl⟩ | ⟨x, t, rfl⟩
      · exact ⟨true, rfl⟩
      · exact ⟨false, rfl⟩
    obtain ⟨c, e0⟩ := e0
    rw [e0]
    apply wpAny_bind (wpAny_pure _)
    cases c
    · simp only [Bool.not_false, if_true]
      exact wpAny_pure (wpAny_pure (q _))
    · simp only [Bool.not_true, Bool.false_eq_true, if_false]
      exact wpAny_pure ⟨rfl, tl⟩
  · rintro ⟨r1, r2⟩ s' ⟨rfl, _⟩
    cases r1
    · exact wpAny_pure (q _)
    · exact wpAny_pure (q _)
/-- a search among such tuples shows nothing -/
theorem unseen_tupK {k : List Key} {b : Addr} {Q : Bool → Shared → Prop} (hk : TupK P w s.heap k b) {ys : List Value}
    (hy : ∀ y, y ∈ ys → ∃ k' c, y = Value.ref c ∧ TupK P w s.heap k' c) (q : Q false s) : wpAny (model P w) A (searchCouldBeSeen (.ref b) ys) Q E s := by
  unfold searchCouldBeSeen
  apply wpAny_bind
  apply wpAny_forIn_list _ (fun rest r s' => r.1 = none ∧ s' = s ∧ ∀ y, y ∈ rest → ∃ k' c, y = Value.ref c ∧ TupK P w s.heap k' c) _ _ _ _ _ ⟨rfl, rfl, hy⟩
  · rintro v rest r s' ⟨hr, rfl, hall⟩
    obtain ⟨k', c, rfl, hc⟩ := hall v List.mem_cons_self
    have tl : ∀ y, y ∈ rest → ∃ k' c, y = Value.ref c ∧ TupK P w s'.heap k' c := fun u hu => hall u (List.mem_cons_of_mem _ hu)
    have fin : wpAny (model P w) A (pure (ForInStep.yield r)) (fun x s1 => match x with
      | .yield b' => b'.1 = none ∧ s1 = s' ∧ ∀ y, y ∈ rest → ∃ k' c, y = Value.ref c ∧ TupK P w s'.heap k' c
      | .done _ => False) E s' := wpAny_pure ⟨hr, rfl, tl⟩
    dsimp only
    by_cases hv : (b == c || (carriedByValue (.ref b) && carriedByValue (.ref c))) = true
    · exact wp_if_pos hv (wpAny_pure ⟨rfl, rfl, tl⟩)
    · apply wp_if_neg hv
      apply wpAny_bind (wpAny_eqIsQuiet_tuple hk _)
      simp only [Bool.not_true, Bool.false_eq_true, if_false]
      apply wpAny_bind (wpAny_eqIsQuiet_tuple hc _)
      simp only [Bool.not_true, Bool.false_eq_true, if_false]
      apply wpAny_bind (ofClass_tupK hk _)
      simp only [Bool.false_eq_true, if_false]
      apply wpAny_bind (ofClass_tupK hc _)
      simp only [Bool.false_eq_true, if_false]
      exact wpAny_pure ⟨rfl, rfl, tl⟩
  · rintro ⟨r1, r2⟩ s' ⟨hr, rfl, _⟩
    cases hr
    exact wpAny_pure q

/-- the set at a: its members, its table -/
structure SetK (P : Program) (w : World) (h : Heap) (a : Addr) (L : List Row) (es : Array (Int × Value)) (ep : Nat) (t : SetTable) : Prop where
  obj : ∃ o, h.get? a = some o ∧ o.ExactSet ∧ o.data = .set es ep t
  rws : es.toList = rowsK P w L
  tbl : TabOk t (L.map fun p => hsK P w p.2)
  uni : (keysK L).Nodup
  mem : ∀ p, p ∈ L → TupK P w h p.2 p.1
  rom : L.length * 5 < t.mask * 3
  low : L.length < 64
variable {a : Addr} {L : List Row} {es : Array (Int × Value)} {ep : Nat} {t : SetTable}
theorem rowsK_len {es : Array (Int × Value)} {L : List Row} (h : es.toList = rowsK P w L) : es.size = L.length := by
  have e : es.toList.length = (rowsK P w L).length := by rw [h]
  simpa [rowsK] using e
theorem rowsK_get {es : Array (Int × Value)} {L : List Row} (h : es.toList = rowsK P w L) {i : Nat} {p : Row} (hp : L[i]? = some p) : es[i]? = some (hsK P w p.2, Value.ref p.1) := by
  have e : es.toList[i]? = some (hsK P w p.2, Value.ref p.1) := by
    rw [h]
    simp [rowsK, hp]
  rwa [Array.getElem?_toList] at e
theorem fits_of {t : SetTable} {n m : Nat} (h1 : t.dummies = #[]) (h2 : t.place.size = n) (h3 : n ≤ t.mask) : t.fits n = true := by
  simp only [SetTable.fits, SetTable.fill, h1, h2]
  simp
  exact h3
theorem SetK.fit (R : SetK P w s.heap a L es ep t) : t.fits es.size = true := by
  have z := rowsK_len R.rws
  have y := R.tbl.sz
  have x := R.rom
  rw [List.length_map] at y
  exact fits_of (m := 0) R.tbl.dm (by omega) (by omega)
theorem SetK.stays (R : SetK P w s.heap a L es ep t) : ¬ t.gaveWay = true := by
  simp only [SetTable.gaveWay, mask_odd R.tbl.mok]
  decide

/-- a search, from the c-th step of the way on; K: the first empty slot -/
theorem searchK (R : SetK P w s.heap a L es ep t) {x : Addr} {k : List Key} (hx : TupK P w s.heap k x) (hu : A.units < cLine) {K : Nat} (hf : K < 10 * SetTable.turns t.mask)
    (hK : way t.mask (hsK P w k) K ∉ t.place.toList) (hb : ∀ c, c < K → way t.mask (hsK P w k) c ∈ t.place.toList) {Q : SetFound → Shared → Prop}
    (yes : k ∈ keysK L → Q (.there none) s) (no : k ∉ keysK L → Q (.free (way t.mask (hsK P w k) K) false) s) :
    ∀ (f c : Nat) (st : Option SetTable.Probe), st.getD (t.probeStart (hsK P w k)) = stp t (hsK P w k) c → c ≤ K → K - c < f →
      (∀ (i : Nat) p, L[i]? = some p → p.2 = k → ∃ d, c ≤ d ∧ d < K ∧ t.place.toList[i]? = some (way t.mask (hsK P w k) d)) →
      wpAny (model P w) A (setSearchFrom a (.ref x) (hsK P w k) true f st) Q E s := by
  intro f
  induction f with
  | zero => exact fun c st _ _ h => absurd h (Nat.not_lt_zero _)
  | succ f ih =>
  intro c st hst hc hlt hre
  obtain ⟨o, ho, hex, hd⟩ := R.obj
  generalize hH : hsK P w k = Z at *
  rw [setSearchFrom_succ]
  apply wpAny_bind (wpAny_setState_of ho hd R.fit _)
  dsimp only
  apply wp_if_neg R.stays
  try apply wpAny_bind (wpAny_pure _)
  have jw : ∀ q, (nth t.mask (stp t Z c) q).j = way t.mask Z (c + q) := fun q => by rw [stp_add, stp_j]
  have eK : c + (K - c) = K := by omega
  have at_ : ∀ (i : Nat) p, L[i]? = some p → (fun i => (es[i]?.map (·.1)).getD 0) i = hsK P w p.2 := fun i p hp => by
    simp only [rowsK_get R.rws hp, Option.map_some, Option.getD_some]
  rcases go_spec t R.tbl.ris R.tbl.dm (fun i => (es[i]?.map (·.1)).getD 0) Z (10 * SetTable.turns t.mask) (K - c) (stp t Z c) (stp_nodummy t Z c) (by omega)
      (fun q hq => by rw [jw]; exact hb _ (by omega)) (by rw [jw, eK]; exact hK) with ⟨q, i, hq, hi, hh, hno, hpr⟩ | ⟨hno, hpr⟩
  · -- a candidate at the (c + q)-th step
    rw [jw] at hi
    have pr : t.probe (fun i => (es[i]?.map (·.1)).getD 0) Z (st.getD (t.probeStart Z)) = some (.candidate (way t.mask Z (c + q)) i (stp t Z (c + (q + 1)))) := by
      rw [hst, ← jw, ← stp_add]
      exact hpr
    rw [pr]
    dsimp only
    have hil : i < L.length := by
      have h1 := (List.getElem?_eq_some_iff.mp hi).1
      have h2 := R.tbl.sz
      rw [List.length_map] at h2
      rw [Array.length_toList, h2] at h1
      exact h1
    obtain ⟨p, hp⟩ : ∃ p, L[i]? = some p := ⟨L[i], List.getElem?_eq_getElem hil⟩
    have pm : p ∈ L := List.mem_of_getElem? hp
    have pe := rowsK_get R.rws hp
    have sl : t.slot (way t.mask Z (c + q)) = .live i := slot_live R.tbl.ris hi
    have go : wpAny (model P w) A (searchRest a (.ref x) Z true f es t (way t.mask Z (c + q)) i (stp t Z (c + (q + 1)))) Q E s := by
      unfold searchRest
      rw [pe]
      dsimp only
      apply wpAny_bind (wpAny_holding (wpAny_eqBool_tuple hu (R.mem p pm) hx _))
      apply wpAny_bind (wpAny_setState_of ho hd R.fit _)
      dsimp only
      by_cases hpk : p.2 = k
      · exact wp_if_pos (by simp [hpk]) (wpAny_pure (yes (List.mem_map.mpr ⟨p, pm, hpk⟩)))
      · apply wp_if_neg (by simp [hpk])
        try apply wpAny_bind (wpAny_pure _)
        rw [sameMem]
        dsimp only
        simp only [if_true, sl, pe]
        apply wpAny_bind (wpAny_isSame_ref_self (wpAny_bind (wpAny_pure _)))
        simp only [if_true]
        apply wp_if_neg (by simp [hpk])
        apply ih (c + (q + 1)) _ rfl (by omega) (by omega)
        intro i0 p0 h0 hk0
        obtain ⟨d, d1, d2, d3⟩ := hre i0 p0 h0 hk0
        refine ⟨d, ?_, d2, d3⟩
        have z0 : hsK P w p0.2 = Z := by rw [hk0, hH]
        by_cases z : d < c + q
        · exact absurd ((at_ i0 p0 h0).trans z0) (hno (d - c) i0 (by omega) (by rw [jw, show c + (d - c) = d by omega]; exact d3))
        · by_cases y : d = c + q
          · subst y
            have s0 := slot_live R.tbl.ris d3
            rw [sl] at s0
            injection s0 with s0
            subst s0
            rw [hp] at h0
            exact absurd ((congrArg Prod.snd (Option.some.inj h0)).trans hk0) hpk
          · omega
    by_cases hl : t.led = true
    · apply wp_if_neg (by simp [hl])
      try apply wpAny_bind (wpAny_pure _)
      exact go
    · apply wp_if_pos (by simp [hl])
      apply wpAny_bind (unseen_tupK hx _ _)
      · intro y hy
        obtain ⟨e, he, rfl⟩ := List.mem_map.mp hy
        have he2 : e ∈ es.toList := by simpa using (by simpa using he : e ∈ es ∧ e.1 = Z).1
        rw [R.rws] at he2
        obtain ⟨p2, hp2, rfl⟩ := List.mem_map.mp he2
        exact ⟨p2.2, p2.1, rfl, R.mem p2 hp2⟩
      · apply wp_if_neg (by decide)
        try apply wpAny_bind (wpAny_pure _)
        exact go
  · -- the empty slot
    have pr : t.probe (fun i => (es[i]?.map (·.1)).getD 0) Z (st.getD (t.probeStart Z)) = some (.empty (way t.mask Z K) none) := by
      have e2 : (nth t.mask (stp t Z c) (K - c)).j = way t.mask Z K := by rw [jw, eK]
      rw [hst, ← e2]
      exact hpr
    rw [pr]
    dsimp only
    apply wpAny_pure (no _)
    intro hm
    obtain ⟨p0, h0, hk0⟩ := List.mem_map.mp hm
    obtain ⟨i0, hi0⟩ := List.mem_iff_getElem?.mp h0
    obtain ⟨d, d1, d2, d3⟩ := hre i0 p0 hi0 hk0
    exact hno (d - c) i0 (by omega) (by rw [jw, show c + (d - c) = d by omega]; exact d3) ((at_ i0 p0 hi0).trans (by rw [show p0.2 = k from hk0, hH]))
/-- the search that adding asks for -/
theorem searchK0 (R : SetK P w s.heap a L es ep t) {x : Addr} {k : List Key} (hx : TupK P w s.heap k x) (hu : A.units < cLine) {Q : SetFound → Shared → Prop}
    (yes : k ∈ keysK L → Q (.there none) s)
    (no : ∀ K, k ∉ keysK L → way t.mask (hsK P w k) K ∉ t.place.toList → (∀ c, c < K → way t.mask (hsK P w k) c ∈ t.place.toList) → Q (.free (way t.mask (hsK P w k) K) false) s) :
    wpAny (model P w) A (setSearch a (.ref x) (hsK P w k) true) Q E s := by
  have rm := R.rom
  obtain ⟨K, hf, hK, hb⟩ := R.tbl.first (by rw [List.length_map]; omega) (hsK P w k)
  have big : K < 100000 := by
    refine Nat.lt_trans hf ?_
    unfold SetTable.turns
    rcases R.tbl.mok with e | e | e <;> rw [e] <;> decide
  unfold setSearch
  apply searchK R hx hu hf hK hb yes (fun hn => no K hn hK hb) 100000 0 none rfl (Nat.zero_le _) (by omega)
  intro i p hp hk
  have hl : i < t.place.toList.length := by
    have h1 := (List.getElem?_eq_some_iff.mp hp).1
    have h2 := R.tbl.sz
    rw [List.length_map] at h2
    rw [Array.length_toList]
    omega
  have hj := List.getElem?_eq_getElem hl
  have hi : (L.map fun p => hsK P w p.2)[i]? = some (hsK P w k) := by simp [hp, hk]
  obtain ⟨c, hc, e⟩ := R.tbl.before hK hi hj
  exact ⟨c, Nat.zero_le _, hc, by rw [hj, e]⟩

/-- a tuple stands while the set changes -/
theorem TupK.but {h h' : Heap} {k : List Key} {a b : Addr} {o : Obj} {es : Array (Int × Value)} {ep : Nat} {t : SetTable} (hb : TupK P w h k b) (ho : h.get? a = some o) (hd : o.data = .set es ep t) (hs : Heap.SameBut a h h') : TupK P w h' k b := by
  obtain ⟨u, its, n, h1, h2, h3, h4⟩ := hb
  have ne : b ≠ a := fun e => by
    subst e
    rw [h1] at ho
    cases ho
    rw [h3] at hd
    cases hd
  exact ⟨u, its, n, (hs.2 b ne).trans h1, h2, h3, h4⟩
theorem TupK.kept {h h' : Heap} {k : List Key} {b : Addr} (x : TupK P w h k b) (hk : ∀ c o, h.get? c = some o → h'.get? c = some o) : TupK P w h' k b := by
  obtain ⟨u, its, n, h1, r⟩ := x
  exact ⟨u, its, n, hk _ _ h1, r⟩
theorem ins_perm {α : Type} (L : List α) (p : Nat) (x : α) : (L.take p ++ x :: L.drop p).Perm (x :: L) :=
  List.perm_middle.trans (by rw [List.take_append_drop])
theorem range_get {α : Type} (L : List α) : (List.range L.length).filterMap (fun i => L[i]?) = L := by
  have key : ∀ n, n ≤ L.length → (List.range n).filterMap (fun i => L[i]?) = L.take n := by
    intro n
    induction n with
    | zero => exact fun _ => rfl
    | succ n ih =>
      intro hn
      have e := List.getElem?_eq_getElem (show n < L.length from hn)
      rw [List.range_succ, List.filterMap_append, ih (by omega), List.take_succ, e]
      simp [e]
  rw [key _ (Nat.le_refl _), List.take_length]
/-- the rows in another order -/
theorem rows_order (L : List Row) (es : Array (Int × Value)) (ord : Array Nat) (hr : es.toList = rowsK P w L) (hp : ord.toList.Perm (List.range L.length)) :
    ∃ L2, (ord.filterMap (es[·]?)).toList = rowsK P w L2 ∧ L2.Perm L ∧ (L2.map fun p => hsK P w p.2) = ord.toList.map fun i => (es.map (·.1)).getD i 0 := by
  have sz := rowsK_len hr
  have key : ∀ l : List Nat, (∀ i, i ∈ l → i < L.length) → l.filterMap (fun i => es[i]?) = rowsK P w (l.filterMap fun i => L[i]?) ∧
      ((l.filterMap fun i => L[i]?).map fun p => hsK P w p.2) = l.map fun i => (es.map (·.1)).getD i 0 := by
    intro l
    induction l with
    | nil => exact fun _ => ⟨rfl, rfl⟩
    | cons i l ih =>
      intro hl
      have hi := List.getElem?_eq_getElem (hl i List.mem_cons_self)
      obtain ⟨e1, e2⟩ := ih fun j hj => hl j (List.mem_cons_of_mem _ hj)
      have ee := rowsK_get hr hi
      constructor
      · rw [List.filterMap_cons_some ee, List.filterMap_cons_some hi, e1]
        rfl
      · rw [List.filterMap_cons_some hi, List.map_cons, List.map_cons, e2]
        have e3 : (es.map (·.1))[i]? = some (hsK P w (L[i]'(hl i List.mem_cons_self)).2) := by rw [Array.getElem?_map, ee]; rfl
        rw [show (es.map (·.1)).getD i 0 = hsK P w (L[i]'(hl i List.mem_cons_self)).2 by simp [Array.getD_eq_getD_getElem?, e3]]
  obtain ⟨e1, e2⟩ := key ord.toList fun i hi => List.mem_range.mp (hp.mem_iff.mp hi)
  refine ⟨ord.toList.filterMap fun i => L[i]?, ?_, ?_, e2⟩
  · rw [Array.toList_filterMap]
    exact e1
  · have z := hp.filterMap (fun i => L[i]?)
    rw [range_get] at z
    exact z

/-- the table laid anew -/
theorem relayK {o : Obj} (ho : s.heap.get? a = some o) (hex : o.ExactSet) (hd : o.data = .set es ep t) (hr : es.toList = rowsK P w L) (hsz : t.place.size = es.size) (hdm : t.dummies = #[]) (hfl : es.size ≤ t.mask)
    (uni : (keysK L).Nodup) (mem : ∀ p, p ∈ L → TupK P w s.heap p.2 p.1) (low : L.length < 64) {wn M : Nat}
    (hw : SetTable.sizeAbove wn - 1 = M) (hM : MaskOk M) (hw2 : SetTable.sizeAbove wn ≤ 128) (hn : L.length * 5 < M * 3) {Q : Unit → Shared → Prop}
    (q : ∀ h' L' es' ep' t', Heap.SameBut a s.heap h' → SetK P w h' a L' es' ep' t' → L'.Perm L → Q () { s with heap := h' }) : wpAny (model P w) A (setRelay a wn) Q E s := by
  have hsl := rowsK_len hr
  obtain ⟨t', ord, e, hp, T, em, _, _, _⟩ := relaid_ok t (hs := es.map (·.1)) (wanted := wn) hw hM (by rw [Array.size_map, hsl]; omega)
  rw [Array.size_map, hsl] at hp
  obtain ⟨L2, r1, r2, r3⟩ := rows_order L es ord hr hp
  have hs2 : (ord.filterMap (es[·]?)).size = L.length := by rw [rowsK_len r1, r2.length_eq]
  rw [← r3] at T
  rw [setRelay_eq]
  apply wpAny_bind (wpAny_setState_of ho hd (fits_of (m := 0) hdm hsz hfl) _)
  dsimp only
  apply wp_if_neg (by rw [sizeLine_eq]; omega)
  try apply wpAny_bind (wpAny_pure _)
  rw [e]
  dsimp only
  apply wpAny_bind
  apply wp_if_neg (by rw [hs2, hsl]; simp)
  try apply wpAny_bind (wpAny_pure _)
  apply wpAny_pure
  dsimp only
  apply wpAny_storeSet_of ho hd _ (by rw [hs2, sizeLine_eq]; omega)
  have sb : Heap.SameBut a s.heap (s.heap.update a (Obj.putSet (ord.filterMap (es[·]?)) t')) := Heap.SameBut.update ..
  apply q _ L2 (ord.filterMap (es[·]?)) (ep + 1) t' sb _ r2
  exact ⟨⟨_, store_at ho hd, ⟨hex.1, hex.2.1, hex.2.2⟩, rfl⟩, r1, T, (r2.map Prod.snd).nodup_iff.mpr uni, fun p hpm => TupK.but (mem p (r2.mem_iff.mp hpm)) ho hd sb, by rw [r2.length_eq, em]; exact hn, by rw [r2.length_eq]; exact low⟩

/-- a member more -/
theorem addK (R : SetK P w s.heap a L es ep t) {x : Addr} {k : List Key} (hx : TupK P w s.heap k x) (hu : A.units < cLine) (few : k ∉ keysK L → L.length + 1 < 64) {Q : Bool → Shared → Prop}
    (q : ∀ b h' L' es' ep' t', Heap.SameBut a s.heap h' → SetK P w h' a L' es' ep' t' → (k ∈ keysK L → L' = L) → (k ∉ keysK L → L'.Perm ((x, k) :: L)) → Q b { s with heap := h' }) :
    wpAny (model P w) A (setAddHashed a (.ref x) (hsK P w k)) Q E s := by
  obtain ⟨o, ho, hex, hd⟩ := R.obj
  have hsl := rowsK_len R.rws
  have rm := R.rom
  unfold setAddHashed
  apply wpAny_holding
  rw [show (100000 : Nat) = 99999 + 1 from rfl, setAddHashedIn_succ]
  apply wpAny_bind (wpAny_setState_of ho hd R.fit _)
  dsimp only
  apply wp_if_neg (by simp [byScan, Value.scannable])
  try apply wpAny_bind (wpAny_pure _)
  apply wpAny_bind (searchK0 R hx hu _ _)
  · intro hm
    dsimp only
    exact wpAny_pure (q false s.heap L es ep t (Heap.SameBut.refl a s.heap) R (fun _ => rfl) fun z => absurd hm z)
  intro K hm hK hb
  have few := few hm
  dsimp only
  apply wpAny_bind (wpAny_setState_of ho hd R.fit _)
  dsimp only
  obtain ⟨q1, q2, q3, q4, _, _, _, _, q9⟩ := R.tbl.put hK hb
  generalize hpt : t.put (way t.mask (hsK P w k) K) = pt at q1 q3 q4 q9 ⊢
  obtain ⟨t1, p⟩ := pt
  dsimp only at q1 q3 q4 q9 ⊢
  subst q1
  generalize hpp : SetTable.below t.place (way t.mask (hsK P w k) K) = p at *
  have ins : (SetTable.insertAt es p (hsK P w k, Value.ref x)).toList = rowsK P w (L.take p ++ (x, k) :: L.drop p) := by
    rw [SetTable.toList_insertAt, R.rws]
    simp [rowsK]
  have pm := ins_perm L p (x, k)
  have len1 : (L.take p ++ (x, k) :: L.drop p).length = L.length + 1 := pm.length_eq
  have T1 : TabOk t1 ((L.take p ++ (x, k) :: L.drop p).map fun p => hsK P w p.2) := by
    have e : (L.take p ++ (x, k) :: L.drop p).map (fun p => hsK P w p.2) = (L.map fun p => hsK P w p.2).take p ++ hsK P w k :: (L.map fun p => hsK P w p.2).drop p := by simp
    rw [e]
    exact q3
  have uni1 : (keysK (L.take p ++ (x, k) :: L.drop p)).Nodup := (pm.map Prod.snd).nodup_iff.mpr (List.nodup_cons.mpr ⟨hm, R.uni⟩)
  have sz1 := rowsK_len ins
  rw [len1] at sz1
  generalize SetTable.insertAt es p (hsK P w k, Value.ref x) = es1 at *
  generalize L.take p ++ (x, k) :: L.drop p = L1 at *
  have main : ∀ t2 : SetTable, t2.place = t1.place → t2.dummies = t1.dummies → t2.mask = t1.mask → t2.fill = t1.fill →
      wpAny (model P w) A (do
        storeSet a es1 t2
        if !false && t2.tooFull then setRelay a (SetTable.grown (es.size + 1))
        return true) Q E s := by
    intro t2 f1 f2 f3 f4
    have T2 : TabOk t2 (L1.map fun p => hsK P w p.2) := by
      obtain ⟨a1, a2, a3, a4, a5, a6⟩ := T1
      exact ⟨by rw [f1]; exact a1, by rw [f2]; exact a2, by rw [f1]; exact a3, by rw [f3]; exact a4, by rw [f1, f3]; exact a5, by rw [f1, f3]; exact a6⟩
    apply wpAny_bind (wpAny_storeSet_of ho hd _ (by rw [sz1, sizeLine_eq]; omega))
    have sb : Heap.SameBut a s.heap (s.heap.update a (Obj.putSet es1 t2)) := Heap.SameBut.update ..
    have ho1 := store_at (es' := es1) (t' := t2) ho hd
    generalize s.heap.update a (Obj.putSet es1 t2) = h1 at sb ho1 ⊢
    have mem1 : ∀ p, p ∈ L1 → TupK P w h1 p.2 p.1 := fun p hp => by
      rcases List.mem_cons.mp (pm.mem_iff.mp hp) with e | hp
      · rw [e]; exact TupK.but hx ho hd sb
      · exact TupK.but (R.mem p hp) ho hd sb
    have fl : t2.tooFull = decide (t2.fill * 5 ≥ t2.mask * 3) := rfl
    rw [f4, q9, List.length_map] at fl
    by_cases hf : t2.tooFull = true
    · rw [hf]
      rw [hf] at fl
      have full : (L.length + 1) * 5 ≥ t2.mask * 3 := of_decide_eq_true fl.symm
      have two : (t2.mask = 7 ∧ L.length = 4) ∨ (t2.mask = 31 ∧ L.length = 18) := by
        rw [f3, q4] at full ⊢
        rcases R.tbl.mok with e | e | e <;> rw [e] at full rm ⊢ <;> omega
      have go : ∀ M, SetTable.sizeAbove (SetTable.grown (L.length + 1)) - 1 = M → MaskOk M → SetTable.sizeAbove (SetTable.grown (L.length + 1)) ≤ 128 → (L.length + 1) * 5 < M * 3 →
          wpAny (model P w) A (setRelay a (SetTable.grown (L.length + 1))) (fun _ s' => wpAny (model P w) A (pure true) Q E s') E { s with heap := h1 } := by
        intro M a1 a2 a3 a4
        apply relayK (s := { s with heap := h1 }) ho1 ⟨hex.1, hex.2.1, hex.2.2⟩ rfl ins (by rw [T2.sz, List.length_map, len1, sz1]) T2.dm (by rw [sz1]; rcases two with ⟨e, e2⟩ | ⟨e, e2⟩ <;> omega) uni1 mem1 (by rw [len1]; exact few) a1 a2 a3 (by rw [len1]; exact a4)
        intro h2 L2 es2 ep2 t3 sb2 R2 pm2
        exact wpAny_pure (q true h2 L2 es2 ep2 t3 (sb.trans sb2) R2 (fun z => absurd z hm) fun _ => pm2.trans pm)
      simp only [Bool.not_false, Bool.and_self, if_true]
      apply wpAny_bind
      rw [hsl]
      rcases two with ⟨_, e2⟩ | ⟨_, e2⟩
      · exact go 31 (by rw [e2, size_20]) (.inr (.inl rfl)) (by rw [e2, size_20]; decide) (by omega)
      · exact go 127 (by rw [e2, size_76]) (.inr (.inr rfl)) (by rw [e2, size_76]; decide) (by omega)
    · have hf' : t2.tooFull = false := by simpa using hf
      rw [hf']
      rw [hf'] at fl
      have nf : ¬ (L.length + 1) * 5 ≥ t2.mask * 3 := of_decide_eq_false fl.symm
      simp only [Bool.and_false, Bool.false_eq_true, if_false]
      try apply wpAny_bind (wpAny_pure _)
      exact wpAny_pure (q true h1 L1 es1 (ep + 1) t2 sb ⟨⟨_, ho1, ⟨hex.1, hex.2.1, hex.2.2⟩, rfl⟩, ins, T2, uni1, mem1, by rw [len1]; omega, by rw [len1]; exact few⟩ (fun z => absurd z hm) fun _ => pm)
  by_cases hp : t1.plain = true
  · first
      | apply wp_if_pos hp (wpAny_bind (byValue_tupK hx _))
      | (apply wpAny_bind; apply wp_if_pos hp (byValue_tupK hx _))
    intro c
    cases c
    · exact main { t1 with plain := false } rfl rfl rfl rfl
    · exact main t1 rfl rfl rfl rfl
  · first
      | apply wp_if_neg hp (wpAny_bind (wpAny_pure _))
      | (apply wpAny_bind; apply wp_if_neg hp (wpAny_pure _))
    exact main t1 rfl rfl rfl rfl

/-- what the set has got from the first i items -/
structure Had (ks : List Row) (i : Nat) (L : List Row) : Prop where
  sub : ∀ p, p ∈ L → p ∈ ks.take i
  all : ∀ p, p ∈ ks.take i → p.2 ∈ keysK L
  len : L.length ≤ i
theorem Had.nil (ks : List Row) : Had ks 0 [] := ⟨fun _ h => (nomatch h), fun _ h => (by simp at h), Nat.le_refl _⟩
theorem take_one {α : Type} {l : List α} {i : Nat} {x : α} (h : l[i]? = some x) : l.take (i + 1) = l.take i ++ [x] := by
  simp [List.take_succ, h]
theorem Had.next {ks L L' : List Row} {i : Nat} {x : Row} (g : Had ks i L) (h : ks[i]? = some x) (c1 : x.2 ∈ keysK L → L' = L) (c2 : x.2 ∉ keysK L → L'.Perm (x :: L)) : Had ks (i + 1) L' := by
  by_cases c : x.2 ∈ keysK L
  · rw [c1 c]
    refine ⟨fun p hp => ?_, fun p hp => ?_, Nat.le_succ_of_le g.len⟩
    · rw [take_one h]
      exact List.mem_append_left _ (g.sub p hp)
    · rw [take_one h, List.mem_append, List.mem_singleton] at hp
      rcases hp with z | z
      · exact g.all p z
      · rw [z]; exact c
  · have pm := c2 c
    refine ⟨fun p hp => ?_, fun p hp => ?_, by rw [pm.length_eq]; exact Nat.succ_le_succ g.len⟩
    · rw [take_one h]
      rcases List.mem_cons.mp (pm.mem_iff.mp hp) with e | z
      · exact List.mem_append_right _ (by rw [e]; exact List.mem_singleton.mpr rfl)
      · exact List.mem_append_left _ (g.sub p z)
    · rw [keysK, (pm.map Prod.snd).mem_iff, List.map_cons]
      rw [take_one h, List.mem_append, List.mem_singleton] at hp
      rcases hp with z | z
      · exact List.mem_cons_of_mem _ (g.all p z)
      · rw [z]; exact List.mem_cons_self
theorem SetK.moved {h h' : Heap} (R : SetK P w h a L es ep t) (ha : ∀ o, h.get? a = some o → h'.get? a = some o) (ht : ∀ p, p ∈ L → TupK P w h' p.2 p.1) : SetK P w h' a L es ep t := by
  obtain ⟨o, ho, r⟩ := R.obj
  exact ⟨⟨o, ha o ho, r⟩, R.rws, R.tbl, R.uni, ht, R.rom, R.low⟩
/-- a new set's object -/
def set0 (b : Bool) : Obj := { cls := .type "set", dict := none, data := .set #[] 0 (.fresh 0 0 b) }
theorem setK_new {h : Heap} {b : Bool} (ho : h.get? a = some (set0 b)) : SetK P w h a [] #[] 0 (.fresh 0 0 b) :=
  ⟨⟨_, ho, ⟨rfl, rfl, rfl⟩, rfl⟩, rfl, ⟨List.Pairwise.nil, rfl, rfl, .inl rfl, fun _ hx => (nomatch hx), fun i z j hi => (by simp at hi)⟩, List.nodup_nil, fun _ hp => (nomatch hp), (by decide : 0 * 5 < 7 * 3), (by decide : 0 < 64)⟩

/-- few different ones -/
def Few (ks : List Row) : Prop := ∀ D : List (List Key), D.Nodup → (∀ k, k ∈ D → k ∈ keysK ks) → D.length < 64
theorem nodup_le {α : Type} [DecidableEq α] : ∀ (l D : List α), D.Nodup → (∀ x, x ∈ D → x ∈ l) → D.length ≤ l.length
  | [], D, _, h => by
    have : D = [] := List.eq_nil_iff_forall_not_mem.mpr fun z hz => by simpa using h z hz
    rw [this]
    exact Nat.le_refl _
  | a :: r, D, nd, h => by
    by_cases aD : a ∈ D
    · have e := nodup_le r (D.erase a) (nd.erase a) fun z hz => by
        rw [nd.mem_erase_iff] at hz
        exact (List.mem_cons.mp (h z hz.2)).elim (fun e => absurd e hz.1) id
      rw [List.length_erase_of_mem aD] at e
      rw [List.length_cons]
      omega
    · have e := nodup_le r D nd fun z hz => (List.mem_cons.mp (h z hz)).elim (fun e => absurd (by rw [← e]; exact hz) aD) id
      rw [List.length_cons]
      omega
theorem few_of {ks : List Row} (h : ks.length < 64) : Few ks := fun D nd hD => by
  have e := nodup_le (keysK ks) D nd hD
  have : (keysK ks).length = ks.length := by simp [keysK]
  omega
/-- the loop of set.update over a list of tuples -/
theorem loopK {I : Addr} {fp wr : List Addr} {G : Array GenState → Array GenState → Prop} {n : Nat} {Pv : Nat → Value → Prop} {St : Nat → Shared → Prop} {R : Result → Shared → Prop}
    (W : WalksS P w A.in1 I fp wr G n Pv St) (S : Addr) (nS : S ∉ fp) (ks : List Row) (hn : n = ks.length) (few : Few ks) (val : ∀ i v, Pv i v → ∃ p, ks[i]? = some p ∧ v = .ref p.1)
    (g0 : Heap) (hk : ∀ p, p ∈ ks → TupK P w g0 p.2 p.1) (n0 : g0.get? S = none) (w0 : ∀ b, b ∈ wr → g0.get? b = none) (hu : A.in1.units < cLine) :
    ∀ (m i : Nat) (s : Shared), n - i = m → i ≤ n → St i s → (∀ b o, g0.get? b = some o → s.heap.get? b = some o) → (∃ L es ep t, SetK P w s.heap S L es ep t ∧ Had ks i L) →
      (∀ s' L es ep t, Moved (S :: wr) G s s' → SetK P w s'.heap S L es ep t → Had ks n L → (∀ b o, g0.get? b = some o → s'.heap.get? b = some o) → R (.ok (.ret .none)) s') →
      codeAny (model P w) A (.builtin "set.update.loop" ⟨[.ref S, .ref I], []⟩) R s := by
  have sw : S ∉ wr := fun h => nS (W.sub _ h)
  have up : ∀ b, b ∈ wr → b ∈ S :: wr := fun b hb => List.mem_cons_of_mem _ hb
  have kp : ∀ {s s' : Shared}, Moved wr G s s' → (∀ b o, g0.get? b = some o → s.heap.get? b = some o) → ∀ b o, g0.get? b = some o → s'.heap.get? b = some o := fun hm h b o e =>
    hm.heap b o (fun hb => by rw [w0 b hb] at e; cases e) (h b o e)
  intro m
  induction m with
  | zero =>
    intro i s hm hi hst hkp ⟨L, es, ep, t, hS, g⟩ hR
    obtain rfl : i = n := by omega
    apply codeAny_builtin F.entry_set_update_loop
    rw [Around.under_plainId F.plain_set_update_loop _]
    show wpAny _ A.in1 (pyNext (.ref I) >>= _) _ _ s
    apply wpAny_bind (W.done s _ _ hst _)
    intro s' mv
    show wpAny _ A.in1 (ret Value.none) _ _ s'
    have k2 := kp mv hkp
    exact wpAny_pure (hR s' L es ep t (mv.mono up) (hS.moved (fun o e => mv.heap S o sw e) fun p hp => TupK.kept (hk p (List.mem_of_mem_take (g.sub p hp))) k2) g k2)
  | succ m ih =>
    intro i s hm hi hst hkp ⟨L, es, ep, t, hS, g⟩ hR
    have lt : i < n := by omega
    apply codeAny_builtin F.entry_set_update_loop
    rw [Around.under_plainId F.plain_set_update_loop _]
    show wpAny _ A.in1 (pyNext (.ref I) >>= _) _ _ s
    apply wpAny_bind (W.item i s _ _ lt hst _)
    intro v s' hP hst' mv
    obtain ⟨p, hp, rfl⟩ := val i v hP
    have k2 := kp mv hkp
    have hS' : SetK P w s'.heap S L es ep t := hS.moved (fun o e => mv.heap S o sw e) fun q hq => TupK.kept (hk q (List.mem_of_mem_take (g.sub q hq))) k2
    have hx : TupK P w s'.heap p.2 p.1 := TupK.kept (hk p (List.mem_of_getElem? hp)) k2
    show wpAny _ A.in1 (holding [Value.ref p.1] (setAdd S (.ref p.1)) >>= _) _ _ s'
    apply wpAny_bind (wpAny_holding _)
    unfold setAdd
    apply wpAny_holding
    apply wpAny_bind (wpAny_pyHash_tuple hu hx _)
    apply addK (s := { s' with toks := s'.toks + (p.2.length + 1) }) hS' hx hu (fun nk => by
      have z := few (keysK L ++ [p.2]) (by
        rw [List.nodup_append]
        refine ⟨hS'.uni, by simp, fun a ha b hb => ?_⟩
        rw [List.mem_singleton.mp hb]
        rintro rfl
        exact nk ha) fun k hk2 => by
        rcases List.mem_append.mp hk2 with hk2 | hk2
        · obtain ⟨q, hq, rfl⟩ := List.mem_map.mp hk2
          exact List.mem_map.mpr ⟨q, List.mem_of_mem_take (g.sub q hq), rfl⟩
        · rw [List.mem_singleton.mp hk2]
          exact List.mem_map.mpr ⟨p, List.mem_of_getElem? hp, rfl⟩
      have zl : (keysK L).length = L.length := by simp [keysK]
      rw [List.length_append, zl] at z
      exact z)
    intro b h' L' es' ep' t' sb hS2 c1 c2
    have k3 : ∀ b o, g0.get? b = some o → h'.get? b = some o := fun b o e => (sb.2 b (fun z => by rw [z, n0] at e; cases e)).trans (k2 b o e)
    have fr := W.frame (i + 1) s' h' (s'.toks + (p.2.length + 1)) hst' (Nat.le_add_right _ _) fun b hb o e => by
      rw [sb.2 b (fun h : b = S => nS (by rw [← h]; exact hb))]; exact e
    apply wpAny_pure
    refine ⟨plainId_quiet F.plain_set_update_loop _, ih (i + 1) _ (by omega) lt fr k3 ⟨L', es', ep', t', hS2, g.next hp c1 c2⟩ fun s'' L2 es2 ep2 t2 mv2 hS3 g3 k4 => ?_⟩
    refine hR s'' L2 es2 ep2 t2 (Moved.trans W.gtrans ((mv.mono up).then_heap (Nat.le_add_right _ _) fun b o hb e => ?_) mv2) hS3 g3 k4
    rw [sb.2 b fun h => hb (by rw [h]; exact List.mem_cons_self)]
    exact e

/-- what the loop of set(xs) does -/
structure SetLoop (P : Program) (w : World) (A : Around) (s : Shared) (l : Addr) (Post : Heap → Prop) : Prop where
  run : ∀ (led : Bool) (R : Result → Shared → Prop), (w.params.followText "set-order" = true ∨ led = true) → (∀ h' tk, Post h' → (∀ b o, s.heap.get? b = some o → h'.get? b = some o) → R (.ok (.ret .none)) { s with heap := h', toks := tk }) →
    codeAny (model P w) A.in1.in1 (.builtin "set.update.loop" ⟨[.ref s.heap.objs.size, .ref (s.heap.push (set0 led)).objs.size], []⟩) R
      { s with heap := (s.heap.push (set0 led)).push { cls := .type "list_iterator", data := .fields #[.ref l, .int 0 0] } }
structure SetGoal (s : Shared) (Post : Heap → Prop) (Q : Value → Shared → Prop) : Prop where
  out : ∀ (h' : Heap) (tk : Nat), Post h' → (∀ b o, s.heap.get? b = some o → h'.get? b = some o) → Q (.ref s.heap.objs.size) { s with heap := h', toks := tk }
/-- set(xs), by what its loop does -/
theorem call_set_gen {l : Addr} {its : Array Value} (Post : Heap → Prop) {Q : Value → Shared → Prop} (hl : s.heap.IsList l its) (loop : SetLoop P w A s l Post) (q : SetGoal s Post Q) :
    wpAny (model P w) A (call (.type "set") [.ref l]) Q E s := by
  obtain ⟨c, tl, hmro⟩ := F.called_set.mro
  have y1 := F.called_set.made
  have y2 := F.called_set.sub
  apply wpAny_call (codeAny_of_tree _)
  show wpAny _ _ (callAny (.type "set") _) _ _ _
  apply wpAny_pure
  refine ⟨Code.quiet_builtin _ (by decide +kernel), codeAny_builtin F.entry_type_call ?_⟩
  rw [Around.under_plain (weight_type_call_type "set" [.ref l] []) rfl]
  have y3 := F.called_set.notType
  have y4 := F.called_set.canCreate
  have y5 := F.typeCall_set_1 (.ref l)
  repeat (any_goals (first | assumption | wp_step))
  generalize hb : (!w.params.followText "set-order") = led at *
  have hled : w.params.followText "set-order" = true ∨ led = true := by
    rw [← hb]
    cases w.params.followText "set-order" <;> simp
  have z0 : ∀ b, s.heap.objs.size ≤ b → s.heap.get? b = none := fun b hb => by
    cases e : s.heap.get? b with
    | none => rfl
    | some o => exact absurd (Heap.lt_size e) (Nat.not_lt.mpr hb)
  have n1 : (s.heap.push (set0 led)).objs.size = s.heap.objs.size + 1 := Heap.size_push ..
  have g1 : (s.heap.push (set0 led)).get? s.heap.objs.size = some (set0 led) := Heap.get?_push_size _ rfl
  apply codeAny_mono (code_set_led1 (.ref l) (E := E) (Q₁ := fun obj s₁ => obj = .ref s.heap.objs.size ∧ s₁ = { s with heap := s.heap.push (set0 led) }) ⟨rfl, by rw [hb]; rfl⟩)
  intro r s₁ hr
  rcases r with e | fl
  · exact hr
  cases fl with
  | next => exact hr.elim
  | brk => exact hr.elim
  | cont => exact hr.elim
  | ret obj =>
  obtain ⟨rfl, rfl⟩ := hr
  have ty : Shared.TypeIs { s with heap := s.heap.push (set0 led) } (.ref s.heap.objs.size) "set" := ⟨_, g1, rfl⟩
  have x1 := F.called_set.init.lookup
  have x2 := F.called_set.init.bind (.ref s.heap.objs.size)
  repeat (any_goals (first | assumption | wp_step))
  apply codeAny_mono (codeAny_call_builtin (R := wants (fun r s₂ => r = .none ∧ ∃ h' tk, s₂ = { s with heap := h', toks := tk } ∧ Post h' ∧
    (∀ b o, s.heap.get? b = some o → h'.get? b = some o)) E) F.called_set.init.plain F.entry_set_init (check_set_init_1 ty _))
  · intro r₂ s₂ hr₂
    rcases r₂ with e | fl₂
    · exact hr₂
    cases fl₂ with
    | next => exact hr₂.elim
    | brk => exact hr₂.elim
    | cont => exact hr₂.elim
    | ret r =>
      obtain ⟨rfl, h', tk, rfl, g, k⟩ := hr₂
      repeat (any_goals (first | assumption | wp_step))
      exact q.out _ _ g k
  obtain ⟨⟨oc, od, odt, osl⟩, hol, hcl, nl, hdl⟩ := hl
  dsimp only at hcl hdl
  subst hcl hdl
  have ls : l < s.heap.objs.size := Heap.lt_size hol
  have g2 := Heap.get?_push_of_some (set0 led) hol
  have w1 := F.sub_list_set
  have w2 := F.sub_list_frozenset
  have w3 : (Value.type "list" == Value.type "dict") = false := by decide
  have hl1 : (s.heap.push (set0 led)).IsList l its := ⟨_, g2, rfl, nl, rfl⟩
  unfold Builtin.«set.__init__» noKeywords Builtin.Frozenset.updateFrom
  generalize hPI : pyIter = PI
  clear q y1 y2 y3 y4 y5 x1 x2 ty g1 z0 n1 hb
  wp_walk
  subst hPI
  apply wpAny_pyIter_list hl1
  apply wpAny_bind (wpAny_runValue _)
  refine loop.run led _ hled fun h' tk g k => ?_
  show wpAny _ _ _ _ _ _
  apply wpAny_pure
  show wpAny _ _ (ret Value.none) _ _ _
  exact wpAny_pure ⟨rfl, h', tk, rfl, g, k⟩
theorem no_above {h : Heap} {b : Addr} (hb : h.objs.size ≤ b) : h.get? b = none := by
  cases e : h.get? b with
  | none => rfl
  | some o => exact absurd (Heap.lt_size e) (Nat.not_lt.mpr hb)
/-- set(xs), xs a list of such tuples -/
theorem call_setK {l : Addr} {its : Array Value} (ks : List Row) {Q : Value → Shared → Prop} (hh : A.handled = none) (hl : s.heap.IsList l its) (hit : its.toList = ks.map fun p => Value.ref p.1)
    (hk : ∀ p, p ∈ ks → TupK P w s.heap p.2 p.1) (few : Few ks) (hu : A.units + 3 < cLine)
    (q : ∀ (h' : Heap) (tk : Nat) L es ep t, SetK P w h' s.heap.objs.size L es ep t → Had ks ks.length L → (∀ b o, s.heap.get? b = some o → h'.get? b = some o) → Q (.ref s.heap.objs.size) { s with heap := h', toks := tk }) :
    wpAny (model P w) A (call (.type "set") [.ref l]) Q E s := by
  have isz : its.size = ks.length := by
    have z : its.toList.length = (ks.map fun p => Value.ref p.1).length := by rw [hit]
    simpa using z
  refine call_set_gen (fun h' => ∃ L es ep t, SetK P w h' s.heap.objs.size L es ep t ∧ Had ks ks.length L) hl ⟨?_⟩ ⟨fun h' tk ⟨L, es, ep, t, hS, g⟩ k => q h' tk L es ep t hS g k⟩
  intro led R hled hR
  have n1 : (s.heap.push (set0 led)).objs.size = s.heap.objs.size + 1 := Heap.size_push ..
  have g1 : (s.heap.push (set0 led)).get? s.heap.objs.size = some (set0 led) := Heap.get?_push_size _ rfl
  have hl1 := hl.push (set0 led)
  have ls : l < s.heap.objs.size := by
    obtain ⟨o, ho, _⟩ := hl
    exact Heap.lt_size ho
  have h3 : A.in1.in1.in1.handled = none := by simp [hh]
  have nI : l ≠ (s.heap.push (set0 led)).objs.size := by
    rw [n1]
    exact Nat.ne_of_lt (Nat.lt_succ_of_lt ls)
  have val : ∀ (i : Nat) (v : Value), its[i]? = some v → ∃ p, ks[i]? = some p ∧ v = .ref p.1 := fun i v hv => by
    rw [← Array.getElem?_toList, hit, List.getElem?_map] at hv
    obtain ⟨p, e1, e2⟩ := Option.map_eq_some_iff.mp hv
    exact ⟨p, e1, e2.symm⟩
  refine loopK ((Walks.list h3 _ l nI its).toS) s.heap.objs.size ?n1 ks isz few val s.heap hk (no_above (Nat.le_refl _)) ?n2 hu (its.size - 0) 0 _ (by omega) (Nat.zero_le _)
    ⟨⟨_, Heap.get?_push_size _ rfl, rfl, rfl⟩, (hl1.push _)⟩ (fun b o e => Heap.get?_push_of_some _ (Heap.get?_push_of_some _ e)) ⟨[], #[], 0, _, setK_new (Heap.get?_push_of_some _ g1), Had.nil ks⟩ ?n3
  case n1 =>
    rw [n1]
    simp only [List.mem_cons, List.not_mem_nil, or_false, not_or]
    exact ⟨Nat.ne_of_lt (Nat.lt_succ_self _), Nat.ne_of_gt ls⟩
  case n2 =>
    intro b hb
    rw [List.mem_singleton.mp hb, n1]
    exact no_above (Nat.le_succ _)
  case n3 =>
    intro s' L es ep t mv hS g k
    obtain ⟨h', g2, d', tk', os'⟩ := s'
    obtain rfl : g2 = s.gens := mv.gens
    obtain rfl : d' = s.drawn := mv.drawn
    obtain rfl : os' = s.os := mv.os
    rw [isz] at g
    exact hR h' tk' ⟨L, es, ep, t, hS, g⟩ k
end

/-! ### len(set(xs)) as a rule of the layer -/
/-- how many different ones -/
def many {α : Type} [DecidableEq α] (l : List α) : Nat := l.eraseDups.length
section
variable {X : Cx}
theorem TupK.of {pins : List (Addr × Obj)} {σ : L2.St} {H : Hp} {s : Shared} (I : Inv X pins σ H s) {a : Addr} {k : List Key} (h : SqT X.K H a (k.map kV)) : TupK X.prog X.w s.heap k a := by
  obtain ⟨its, rv, ⟨o, h1, h2, n, h3⟩, z⟩ := I.tuple h
  refine ⟨o, its.toArray, n, h1, h2, h3, ?_⟩
  rw [List.toList_toArray]
  clear h1 h2 h3 h z
  induction k generalizing its with
  | nil =>
    cases rv
    exact .nil
  | cons x k ih =>
    cases rv with
    | cons r t =>
      refine .cons ?_ (ih _ t)
      cases x with
      | inl i =>
        obtain ⟨t, rfl⟩ := r
        exact keyIs_int i t
      | inr z =>
        obtain ⟨t, rfl⟩ := r
        exact keyIs_str z t
/-- F: that there are few -/
def tLenSetG (F : List Row → Prop) (K : PySem.W.Frag) (ta : TE) : TE := fun σ H Q => ta σ H fun x H1 => ∃ (l : Addr) (ks : List Row), x = V.ref l ∧ SqL K H1 l (ks.map fun p => V.ref p.1) ∧ (∀ p, p ∈ ks → SqT K H1 p.1 (p.2.map kV)) ∧ F ks ∧
  ∀ n : Nat, (∀ D : List (List Key), D.Nodup → (∀ k, k ∈ D ↔ k ∈ keysK ks) → D.length = n) → Q (.int n) H1
def tLenSetK (K : PySem.W.Frag) (ta : TE) : TE := tLenSetG (fun ks => ks.length < 64) K ta
theorem nodup_same {α : Type} : ∀ {l m : List α}, l.Nodup → m.Nodup → (∀ x, x ∈ l ↔ x ∈ m) → l.length = m.length := fun h1 h2 h =>
  ((List.perm_ext_iff_of_nodup h1 h2).mpr h).length_eq
theorem pe_lenSetG {F : List Row → Prop} (hF : ∀ ks, F ks → Few ks) {a : Expr} {ta : TE} {p p2 q pos : Pos} (hc : X.calm = true) (hg : Gl X "len") (hm : X.mg "len" = none) (hg2 : Gl X "set") (hm2 : X.mg "set" = none) (ha : PE X a ta) (hu : X.A.units + 64 < cLine)
    (na : starEach [a] X.env = (false, eval a X.env) :: starEach [] X.env := by rfl) : PE X (.Call (.Name "len" p) [.Call (.Name "set" p2) [a] [] q] [] pos) (tLenSetG F X.K ta) := by
  refine ⟨fun pins s σ H Q I h => ?_⟩
  apply Call_ (ld_blt I hg hm PySem.boot_len _)
  apply PyProof.Rows.callWith_builtin1 (PyProof.Rows.args_cons _ rfl) rfl rfl
  apply Call_ (ld_blt I hg2 hm2 PyProof.Rows.boot_set _)
  apply PyProof.Rows.callWith_type1 (PyProof.Rows.args_cons (thn (ha.run pins s σ H _ I h) _) na) na rfl
  rintro v s1 ⟨x, H1, I1, r1, l, ks, rfl, hl, hk, few, q1⟩
  apply PyProof.Rows.args_nil
  cases r1
  obtain ⟨its, rv, pl, hz⟩ := I1.list hl
  have e1 : its = ks.map fun p => Value.ref p.1 := by
    clear hl pl hz hk few q1 I1
    induction ks generalizing its with
    | nil =>
      cases rv
      rfl
    | cons p ks ih =>
      cases rv with
      | cons r t =>
        cases r
        rw [List.map_cons, ih _ t]
  apply call_setK ks (I1.ok.hd hc) pl.isList (by rw [List.toList_toArray, e1]) (fun p hp => TupK.of I1 (hk p hp)) (hF ks few) (by omega)
  intro h' tk L es ep t R g k
  apply PyProof.Rows.args_nil
  have I2 : Inv X pins σ H1 { s1 with heap := h', toks := tk } := I1.kept fun b o e => k b o e
  have ln := rowsK_len R.rws
  have hL : L.length = (keysK L).length := by simp [keysK]
  obtain ⟨o, ho, hex, hd⟩ := R.obj
  have fin := q1 L.length fun D h1 h2 => by
    rw [hL]
    refine nodup_same h1 R.uni fun x => ?_
    rw [h2, keysK, List.mem_map]
    constructor
    · rintro ⟨p, hp, rfl⟩
      exact g.all p (by rw [List.take_length]; exact hp)
    · intro hx
      obtain ⟨p, hp, rfl⟩ := List.mem_map.mp hx
      exact ⟨p, by have := g.sub p hp; rwa [List.take_length] at this, rfl⟩
  have lo := R.low
  exact call_len_set ho hex hd (SetK.fit (s := { s1 with heap := h', toks := tk }) R) (by rw [ln]; omega) ⟨.int L.length, H1, I2.tok _, ⟨_, by rw [ln]⟩, fin⟩
theorem pe_lenSetK {a : Expr} {ta : TE} {p p2 q pos : Pos} (hc : X.calm = true) (hg : Gl X "len") (hm : X.mg "len" = none) (hg2 : Gl X "set") (hm2 : X.mg "set" = none) (ha : PE X a ta) (hu : X.A.units + 64 < cLine)
    (na : starEach [a] X.env = (false, eval a X.env) :: starEach [] X.env := by rfl) : PE X (.Call (.Name "len" p) [.Call (.Name "set" p2) [a] [] q] [] pos) (tLenSetK X.K ta) := pe_lenSetG (F := fun ks => ks.length < 64) (fun _ h => few_of h) hc hg hm hg2 hm2 ha hu na
end
end Kx
/-! len(set(xs)), xs a list of texts. -/
namespace Kx
open PySem PySem.Spec PyProof.Rows L2
/-- how many different ones stand in a list -/
def cnt {α : Type} [DecidableEq α] : List α → Nat
  | [] => 0
  | x :: l => if x ∈ l then cnt l else cnt l + 1
section
variable {P : Program} {w : World} {A : Around} {E : Value → Shared → Prop} {s : Shared}
def inS (xs : List Str) (k : Str) : Bool := decide (k ∈ xs)
theorem cnt_rev_append {α : Type} [DecidableEq α] : ∀ (l : List α) (x : α), cnt (l ++ [x]) = if x ∈ l then cnt l else cnt l + 1
  | [], x => by simp [cnt]
  | y :: l, x => by
    have ih := cnt_rev_append l x
    by_cases h3 : y = x
    · subst h3
      by_cases h1 : y ∈ l <;> simp_all [cnt]
    · have h4 : ¬ x = y := fun e => h3 e.symm
      by_cases h1 : x ∈ l <;> by_cases h2 : y ∈ l <;> simp_all [cnt]
theorem cnt_le {α : Type} [DecidableEq α] : ∀ l : List α, cnt l ≤ l.length
  | [] => Nat.le_refl _
  | x :: l => by
    have := cnt_le l
    unfold cnt
    split <;> simp <;> omega
theorem loopS {I : Addr} {fp wr : List Addr} {G : Array GenState → Array GenState → Prop} {n : Nat} {Pv : Nat → Value → Prop} {St : Nat → Shared → Prop} {R : Result → Shared → Prop}
    (W : WalksS P w A.in1 I fp wr G n Pv St) (S : Addr) (nS : S ∉ fp) (xs : List Str) (hn : n = xs.length) (few : xs.length < 4000) (val : ∀ i v, Pv i v → ∃ x t, xs[i]? = some x ∧ v = .str x t)
    (g0 : Heap) (n0 : g0.get? S = none) (w0 : ∀ b, b ∈ wr → g0.get? b = none) :
    ∀ (m i : Nat) (s : Shared), n - i = m → i ≤ n → St i s → (∀ b o, g0.get? b = some o → s.heap.get? b = some o) → s.heap.SetOf (strKind P w) S (inS (xs.take i)) (cnt (xs.take i)) →
      (∀ s', Moved (S :: wr) G s s' → s'.heap.SetOf (strKind P w) S (inS xs) (cnt xs) → (∀ b o, g0.get? b = some o → s'.heap.get? b = some o) → R (.ok (.ret .none)) s') →
      codeAny (model P w) A (.builtin "set.update.loop" ⟨[.ref S, .ref I], []⟩) R s := by
  have sw : S ∉ wr := fun h => nS (W.sub _ h)
  have up : ∀ b, b ∈ wr → b ∈ S :: wr := fun b hb => List.mem_cons_of_mem _ hb
  have kp : ∀ {s s' : Shared}, Moved wr G s s' → (∀ b o, g0.get? b = some o → s.heap.get? b = some o) → ∀ b o, g0.get? b = some o → s'.heap.get? b = some o := fun hm h b o e =>
    hm.heap b o (fun hb => by rw [w0 b hb] at e; cases e) (h b o e)
  have stay : ∀ {h h' : Heap} {f : Str → Bool} {c : Nat}, h.SetOf (strKind P w) S f c → (∀ o, h.get? S = some o → h'.get? S = some o) → h'.SetOf (strKind P w) S f c := fun ⟨o, es, ep, tb, ho, r⟩ k => ⟨o, es, ep, tb, k o ho, r⟩
  intro m
  induction m with
  | zero =>
    intro i s hm hi hst hkp hS hR
    obtain rfl : i = n := by omega
    apply codeAny_builtin F.entry_set_update_loop
    rw [Around.under_plainId F.plain_set_update_loop _]
    show wpAny _ A.in1 (pyNext (.ref I) >>= _) _ _ s
    apply wpAny_bind (W.done s _ _ hst _)
    intro s' mv
    show wpAny _ A.in1 (ret Value.none) _ _ s'
    rw [hn, List.take_length] at hS
    exact wpAny_pure (hR s' (mv.mono up) (stay hS fun o e => mv.heap S o sw e) (kp mv hkp))
  | succ m ih =>
    intro i s hm hi hst hkp hS hR
    have lt : i < n := by omega
    apply codeAny_builtin F.entry_set_update_loop
    rw [Around.under_plainId F.plain_set_update_loop _]
    show wpAny _ A.in1 (pyNext (.ref I) >>= _) _ _ s
    apply wpAny_bind (W.item i s _ _ lt hst _)
    intro v s' hP hst' mv
    obtain ⟨x, t, hx, rfl⟩ := val i v hP
    have k2 := kp mv hkp
    have hS' := stay hS fun o e => mv.heap S o sw e
    have room : cnt (xs.take i) ≤ i := Nat.le_trans (cnt_le _) (by rw [List.length_take]; omega)
    show wpAny _ A.in1 (holding [Value.str x t] (setAdd S (.str x t)) >>= _) _ _ s'
    apply wpAny_bind (wpAny_holding _)
    unfold setAdd
    apply wpAny_holding
    apply wpAny_bind ((PySem.strKind P w).pyHash (k := x) (strKind_is _ _ _ _) _)
    apply wpAny_setAddHashed_of (knd := PySem.strKind P w) (s := { s' with toks := s'.toks + 1 }) (strKind_is _ _ _ _) rfl hS' (by unfold scanBound; omega)
    intro h' sb hS2
    have k3 : ∀ b o, g0.get? b = some o → h'.get? b = some o := fun b o e => (sb.2 b (fun z => by rw [z, n0] at e; cases e)).trans (k2 b o e)
    have fr := W.frame (i + 1) s' h' (s'.toks + 1) hst' (Nat.le_add_right _ _) fun b hb o e => by
      rw [sb.2 b (fun h : b = S => nS (by rw [← h]; exact hb))]; exact e
    have hS3 : h'.SetOf (PySem.strKind P w) S (inS (xs.take (i + 1))) (cnt (xs.take (i + 1))) := by
      refine SetOf_congr hS2 (fun k => ?_) ?_
      · rw [take_one hx]
        by_cases e : k = x <;> by_cases e2 : k ∈ xs.take i <;> simp [inS, e, e2]
      · rw [take_one hx, cnt_rev_append]
        by_cases e : x ∈ xs.take i <;> simp [inS, e]
    apply wpAny_pure
    refine ⟨plainId_quiet F.plain_set_update_loop _, ih (i + 1) _ (by omega) lt fr k3 hS3 fun s'' mv2 hS4 k4 => ?_⟩
    refine hR s'' (Moved.trans W.gtrans ((mv.mono up).then_heap (Nat.le_add_right _ _) fun b o hb e => ?_) mv2) hS4 k4
    rw [sb.2 b fun h => hb (by rw [h]; exact List.mem_cons_self)]
    exact e
/-- set(xs), xs a list of texts -/
theorem call_setS {l : Addr} {its : Array Value} (xs : List Str) {Q : Value → Shared → Prop} (hh : A.handled = none) (hl : s.heap.IsList l its) (hi : PyProof.Rows.StrsAre its.toList xs) (few : xs.length < 4000)
    (q : ∀ (h' : Heap) (tk : Nat), h'.SetOf (strKind P w) s.heap.objs.size (inS xs) (cnt xs) → (∀ b o, s.heap.get? b = some o → h'.get? b = some o) → Q (.ref s.heap.objs.size) { s with heap := h', toks := tk }) :
    wpAny (model P w) A (call (.type "set") [.ref l]) Q E s := by
  have isz : its.size = xs.length := by rw [← StrsAre.len_eq hi, Array.length_toList]
  refine call_set_gen (fun h' => h'.SetOf (strKind P w) s.heap.objs.size (inS xs) (cnt xs)) hl ⟨?_⟩ ⟨fun h' tk hS k => q h' tk hS k⟩
  intro led R hled hR
  have n1 : (s.heap.push (set0 led)).objs.size = s.heap.objs.size + 1 := Heap.size_push ..
  have g1 : (s.heap.push (set0 led)).get? s.heap.objs.size = some (set0 led) := Heap.get?_push_size _ rfl
  have hl1 := hl.push (set0 led)
  have ls : l < s.heap.objs.size := by
    obtain ⟨o, ho, _⟩ := hl
    exact Heap.lt_size ho
  have h3 : A.in1.in1.in1.handled = none := by simp [hh]
  have nI : l ≠ (s.heap.push (set0 led)).objs.size := by
    rw [n1]
    exact Nat.ne_of_lt (Nat.lt_succ_of_lt ls)
  have val : ∀ (i : Nat) (v : Value), its[i]? = some v → ∃ x t, xs[i]? = some x ∧ v = .str x t := fun i v hv => by
    rw [← Array.getElem?_toList] at hv
    have lt : i < xs.length := by
      rw [← isz, ← Array.length_toList]
      exact (List.getElem?_eq_some_iff.mp hv).1
    obtain ⟨t, e⟩ := SS.strs_at hi i v hv
    exact ⟨xs[i], t, List.getElem?_eq_getElem lt, by rw [e]; simp [List.getD, List.getElem?_eq_getElem lt]⟩
  refine loopS ((Walks.list h3 _ l nI its).toS) s.heap.objs.size ?n1 xs isz few val s.heap (no_above (Nat.le_refl _)) ?n2 (its.size - 0) 0 _ (by omega) (Nat.zero_le _)
    ⟨⟨_, Heap.get?_push_size _ rfl, rfl, rfl⟩, (hl1.push _)⟩ (fun b o e => Heap.get?_push_of_some _ (Heap.get?_push_of_some _ e)) ?n4 ?n3
  case n1 =>
    rw [n1]
    simp only [List.mem_cons, List.not_mem_nil, or_false, not_or]
    exact ⟨Nat.ne_of_lt (Nat.lt_succ_self _), Nat.ne_of_gt ls⟩
  case n2 =>
    intro b hb
    rw [List.mem_singleton.mp hb, n1]
    exact no_above (Nat.le_succ _)
  case n3 =>
    intro s' mv hS k
    obtain ⟨h', g2, d', tk', os'⟩ := s'
    obtain rfl : g2 = s.gens := mv.gens
    obtain rfl : d' = s.drawn := mv.drawn
    obtain rfl : os' = s.os := mv.os
    exact hR h' tk' hS k
  case n4 =>
    refine ⟨set0 led, #[], 0, .fresh 0 0 led, Heap.get?_push_of_some _ g1, ⟨rfl, rfl, rfl⟩, rfl, ?_⟩
    exact ⟨fun e he => (nomatch he), fun k => ⟨fun h => (by simp [inS] at h), fun ⟨e, he, _⟩ => (nomatch he)⟩, (by decide : 0 < scanBound), rfl, by simp [cnt]⟩
end
section
variable {X : Cx}
theorem sAre_of : ∀ {xs : List Str} {us : List Value}, Vals (xs.map V.str) us → StrsAre us xs
  | [], _, .nil => .nil
  | x :: xs, _, .cons r t => by
    obtain ⟨tk, rfl⟩ := r
    exact .cons x tk (sAre_of t)
def tLenSetT (K : PySem.W.Frag) (ta : TE) : TE := fun σ H Q => ta σ H fun x H1 => ∃ (l : Addr) (xs : List Str), x = V.ref l ∧ SqL K H1 l (xs.map V.str) ∧ xs.length < 4000 ∧ Q (.int (cnt xs : Nat)) H1
theorem pe_lenSetT {a : Expr} {ta : TE} {p p2 q pos : Pos} (hc : X.calm = true) (hg : Gl X "len") (hm : X.mg "len" = none) (hg2 : Gl X "set") (hm2 : X.mg "set" = none) (ha : PE X a ta)
    (na : starEach [a] X.env = (false, eval a X.env) :: starEach [] X.env := by rfl) : PE X (.Call (.Name "len" p) [.Call (.Name "set" p2) [a] [] q] [] pos) (tLenSetT X.K ta) := by
  refine ⟨fun pins s σ H Q I h => ?_⟩
  apply Call_ (ld_blt I hg hm PySem.boot_len _)
  apply PyProof.Rows.callWith_builtin1 (PyProof.Rows.args_cons _ rfl) rfl rfl
  apply Call_ (ld_blt I hg2 hm2 PyProof.Rows.boot_set _)
  apply PyProof.Rows.callWith_type1 (PyProof.Rows.args_cons (thn (ha.run pins s σ H _ I h) _) na) na rfl
  rintro v s1 ⟨x, H1, I1, r1, l, xs, rfl, hl, few, q1⟩
  apply PyProof.Rows.args_nil
  cases r1
  obtain ⟨its, rv, pl, hz⟩ := I1.list hl
  apply call_setS xs (I1.ok.hd hc) pl.isList (by rw [List.toList_toArray]; exact sAre_of rv) few
  intro h' tk ⟨o, es, ep, t, ho, hex, hd, _, _, _, hf, hn⟩ k
  apply PyProof.Rows.args_nil
  have I2 : Inv X pins σ H1 { s1 with heap := h', toks := tk } := I1.kept fun b o e => k b o e
  have le := cnt_le xs
  exact call_len_set ho hex hd hf (by rw [hn]; omega) ⟨.int (cnt xs : Nat), H1, I2.tok _, ⟨_, by rw [hn]⟩, q1⟩
end
end Kx
/-! Further rules of the layer. -/
namespace Kx
open PySem PySem.Spec PyProof.Rows L2
section
variable {X : Cx}
/-- a power of a great number -/
theorem op_powX : OpR X (binaryOp .Pow) (rI (fun i j => 0 ≤ j ∧ (Builtin.Int.intBits i : Int) * j ≤ 2 ^ 27) fun i j => .int (i ^ j.toNat)) :=
  opI fun _ _ _ _ _ _ _ hc q => pow_int hc.1 hc.2 q
/-- one item more than a list's -/
theorem meets_extend_tup (l : Addr) (items : Array Value) (n : Nat) (b : Addr) (items2 : Array Value) (n2 : Nat) (od : Option Addr) (osl : Array (Option Value)) (hs0 : ¬(!items.isEmpty && Builtin.List.listTooLong (items.size + items2.size)) = true) (hs1 : items.size ≤ sizeLine) (hs2 : items.size + items2.size ≤ sizeLine + 1) :
    Meets (Builtin.«list.extend» ⟨[.ref l, .ref b], []⟩) (fun _ R s => s.heap.get? l = some { cls := .type "list", dict := none, data := .seq items n, slots := #[] } ∧ s.heap.get? b = some { cls := .type "tuple", dict := od, data := .seq items2 n2, slots := osl } ∧
      R (.ok (.ret Value.none)) { s with heap := s.heap.update l (Obj.mapSeq fun x => x ++ items2), toks := s.toks }) :=
  .of_wp fun prog w A R s h => by
    obtain ⟨hp, g, d, tk, os⟩ := s
    obtain ⟨hl, hb, h⟩ := h
    have f1 := AutoSeq1.idx_int
    have f2 := AutoSeq1.sub_tuple_tuple
    have f3 := AutoSeq1.sub_list_list
    have f4 := AutoSeq1.sub_tuple_list
    have f5 := AutoSeq1.sub_list_tuple
    have hz' : (items ++ items2).size ≤ sizeLine + 1 := by
      rw [Array.size_append]
      exact hs2
    wp_walk using (wpAny_updateSeq hl rfl (hz := hs1) (_hz' := hz')), AutoSeq1.wpAny_loadPart' hl, AutoSeq1.wpAny_loadPart' hb
    exact ⟨_, rfl, h⟩
/-- xs.extend(t), t a tuple -/
def rExtT (K : PySem.W.Frag) : V → List V → Hp → VK → Prop := fun x vs H Q => ∃ l b xs zs, x = .ref l ∧ vs = [.ref b] ∧ H l = some (.lst xs) ∧ SqT K H b zs ∧ xs.length + zs.length ≤ sizeLine ∧ Q .non (upd H l (.lst (xs ++ zs)))
theorem mt_extT : MtM X "list.extend" (rExtT X.K) := by
  intro pins s σ H x vs v us Q I rx rv h
  obtain ⟨l, b, xs, zs, rfl, rfl, hH, hB, hz, q⟩ := h
  cases rx
  obtain ⟨u, rfl, ru⟩ := rv.one
  cases ru
  obtain ⟨z, its, n, r, hl, e⟩ := I.lstM hH
  obtain ⟨its2, r2, ⟨⟨oc, od, odt, osl⟩, e2, hc, n2, hd⟩, z2⟩ := I.tuple hB
  dsimp only at hc hd
  subst hc hd
  have sz : its.toArray.size + its2.toArray.size ≤ sizeLine := by
    rw [List.size_toArray, List.size_toArray, ← r.length, ← r2.length]
    exact hz
  refine call_meets F.slot_list_extend ⟨_, e, rfl⟩ F.entry_list_extend (F.args_list_extend_2 _ _)
    (meets_extend_tup l its.toArray n b its2.toArray n2 od osl ?_ ?_ ?_) ⟨e, e2, ?_⟩
  · rw [notLongL sz, Bool.and_false]
    exact Bool.false_ne_true
  · omega
  · omega
  · refine ⟨.non, _, I.lset (its' := its ++ its2) hH e (by simp) (r.append r2) ?_, rfl, q⟩
    rw [List.length_append]
    exact hz
end
end Kx
/-! Defs that are called where no repr runs: the layer's promise of a def, with that told. -/
namespace Kx
open PySem PySem.Spec PyProof.Rows L2
/-- nothing around A shows itself -/
def Calm (A : Around) : Prop := A.guards = some []
/-- as FnOk, where nothing around shows itself -/
structure FnG (P : Program) (w : World) (K : PySem.W.Frag) (mg : Str → Option Value) (base : Heap) (k : Nat) (f : Addr) (fd : FuncData) (ps : List Str) (sp : Sp) : Prop where
  len : ∀ vs H Q E, sp vs H Q E → vs.length = ps.length
  run : ∀ (A : Around) (outer : List Env) (s : Shared) (H : Hp) (args : Args) (us : List Value) (vs : List V) (Q : VK) (E : XK), Calm A → Room k A → Env0 P w K mg base A outer s H → BindsTo s fd args (ps.zip us) → Vals vs us → sp vs H Q E →
    codeAny (model P w) A (.call (.ref f) args) (CR CX0 outer P w H s Q E) s
theorem calm_deeper {A : Around} {env : Env} (h : Calm A) : Calm (A.deeper env) := by
  unfold Calm at *
  show (A.deeper env).guards = some []
  simp [Around.deeper, h]
section
variable {P : Program} {w : World} {K : PySem.W.Frag} {mg : Str → Option Value} {base : Heap}
theorem fnG_mono {j k : Nat} {f : Addr} {fd : FuncData} {ps : List Str} {sp : Sp} (F : FnG P w K mg base j f fd ps sp) (h : j ≤ k) : FnG P w K mg base k f fd ps sp :=
  ⟨F.len, fun A outer s H args us vs Q E c hr => F.run A outer s H args us vs Q E c (hr.mono h)⟩
/-- THE RULE: a def of the text by its body -/
theorem okG {x qual : Str} {st : Stmt} {f : Addr} {fd : FuncData} {N ps : List Str} {k : Nat} {sp : Sp} (F : Fun K x qual st f fd) (S : FnScope N ps (defScope st)) (len : ∀ vs H Q E, sp vs H Q E → vs.length = ps.length)
    (hbody : ∀ (cdv : Value) (A : Around) (outer : List Env) (s : Shared) (H : Hp) (vs : List V) (Q : VK) (E : XK), Calm (A.deeper (envOfC qual (defScope st) s.heap.objs.size f cdv)) → Room k (A.deeper (envOfC qual (defScope st) s.heap.objs.size f cdv)) → sp vs H Q E →
      ∃ t, PSs (cxOf CX0 P w K mg base N qual (defScope st) f cdv A outer s H E).nox (defBody st) t ∧ t { nx := fun _ H' => Q .non H', rt := Q } (start N vs) H) : FnG P w K mg base (k + 1) f fd ps sp := by
  obtain ⟨oc, od, kV, doc, pm, an, cdv, ct, osl, rfl, lk, hcd⟩ := F.ex
  constructor
  · exact len
  intro A outer s H args us vs Q E cm hr e0 hb r hsp
  have nl := len _ _ _ _ hsp
  have kin : K.In s.heap := e0.mod.kin.keeps fun b o e => (e0.bs b o e).1
  have lim : s.heap.NoLimit := e0.mod.nolimit.keeps fun b o e => (e0.bs b o e).1
  refine codeAny_call_function hr.depth (kin _ _ lk) rfl S.co S.gen rfl (PySem.W.codeRec_of kin hcd) (hb _ _ _ _ (wpAny_newFunctionEnv_cells S.kind ?_ ?_))
  · rintro ⟨n, v⟩ hy
    rcases S.par n (List.of_mem_zip hy).1 with q | q
    · exact .inl q
    · exact .inr ⟨q, PySem.W.cellsFrom_some _ _ _ (.inl q)⟩
  rintro env rfl s1 x
  refine ⟨lim.keeps x.toInCall.keep, codeAny_func ?_⟩
  obtain ⟨t, ht, hq⟩ := hbody cdv A outer s H vs Q E (calm_deeper cm) (hr.deeper _) hsp
  have J0 := inv_start (CX := CX0) (f := f) (cd := cdv) (E := E) (qual := qual) S hr.hd e0 nl r x
  refine wpAny_mono (ht.nox.run [] s1 _ H _ J0 hq) ?_ fun e s' hs => hs
  intro fl s' hs
  rcases fl with _ | _ | _ | u
  · obtain ⟨σ', H', J, q⟩ := hs
    exact ⟨.non, H', J.os, J.bare, J.base, J.hok, rfl, q⟩
  · obtain ⟨_, _, _, q⟩ := hs
    exact q.elim
  · obtain ⟨_, _, _, q⟩ := hs
    exact q.elim
  · obtain ⟨v, σ', H', J, rv, q⟩ := hs
    exact ⟨v, H', J.os, J.bare, J.base, J.hok, rv, q⟩
end
section
variable {X : Cx} {k : Nat} {f : Addr} {fd : FuncData} {ps : List Str} {sp : Sp} {x : Str} {p pos : Pos} {e : Expr} {es : List Expr} {t : TA} {ds : List Value} {dvs : List V} {E : XK}
/-- f(e, ..) for such a def -/
theorem pe_callG (F : FnG X.prog X.w X.K X.mg X.base k f fd ps sp) (cm : Calm X.A) (hr : Room k X.A) (hg : Gl X x) (hm : X.mg x = some (.ref f)) (hk : PySem.W.keepIn X.K (.ref f) = true) (hb : Binds X.K fd ps [])
    (ha : PA X (e :: es) t) (hdb : (x == ("__debug__" : Str)) = false := by decide) (he : starEach (e :: es) X.env = (false, eval e X.env) :: starEach es X.env := by rfl) (hpl : (backTo pos (starEach es X.env)).any (·.1) = false := by rfl) :
    PE X (.Call (.Name x p) (e :: es) [] pos) (tCall sp [] E0 t) := by
  refine ⟨fun pins s σ H Q I h => wpAny_Call_Name_kw (ld_glob I hg hm ?_ hdb)⟩
  refine PySem.W.callWith_K (h₀ := X.base) I.ok.mod.kin hk (thn (ha.run pos pins s σ H _ I h) ?_) he hpl
  rintro us s1 ⟨vs, H1, I1, r, q⟩
  refine ⟨I1.kIn, ?_⟩
  rw [List.append_nil] at q
  have hl : us.length = ps.length := by
    rw [← r.length]
    exact F.len _ _ _ _ q
  have hb' := hb s1 us I1.kIn (by rw [List.append_nil]; exact hl)
  rw [List.append_nil] at hb'
  refine wpAny_call (codeAny_mono (F.run X.A X.stack s1 H1 ⟨us, []⟩ us vs Q E0 cm hr I1.env0 hb' r q) ?_)
  intro r2 s' hq
  rcases r2 with z | fl
  · exact hq.elim
  rcases fl with _ | _ | _ | u
  · exact hq.elim
  · exact hq.elim
  · exact hq.elim
  · exact I1.after hq
end

section
variable {P : Program} {w : World} {K : PySem.W.Frag} {mg mb : Str → Option Value} {k : Nat} {fa a : Addr} {fd : FuncData} {x : Str} {sp : Sp} {s₁ : Shared} {vs : List Value} {ns : List Int}
/-- what the law's call starts from, over an abstract heap H in which the script alone may stand -/
theorem law_from {H : Hp} (hO : Only H) (hS : SqL K H a (ns.map V.int)) (hok : HOk P w H s₁.heap) (hA : ∀ b, H b ≠ none → b = a) (hK : H a ≠ none → K.lookup a = none)
    (KX : K.In s₁.heap) (hns : s₁.heap.Ns mainGlobals mg) (hb : s₁.heap.Ns builtinsNs mb) (hbb : ∀ x : Str, x ≠ "__name__" → mb x = bootBuiltins x) (hlim : s₁.heap.NoLimit) (hg : s₁.gens = #[])
    (ha : s₁.heap.get? a = some { cls := .type "list", data := .seq vs.toArray }) (hr : Room k callerA)
    (F : ∀ base : Heap, K.In base → base.Ns mainGlobals mg → FnG P w K mg base k fa fd [x] sp) (hbind : ∀ (s : Shared) (u : Value), BindsTo s fd ⟨[u], []⟩ [(x, u)])
    (hsp : sp [.ref a] H (fun v _ => v = .bl true) fun _ _ _ => False) :
    codeAny (model P w) callerA (.call (.ref fa) ⟨[.ref a], []⟩) (fun r s' => r = .ok (.ret (.bool true)) ∧ OldK s₁.heap s'.heap ∧ s'.os = s₁.os ∧ AllBare s'.gens) s₁ := by
  have hid : ∀ {b o}, s₁.heap.get? b = some o → H b = none → (hidT s₁.heap H).get? b = some o := fun e n => hidT_get e n
  have free : ∀ {b : Addr} {o : Obj} {es : Array DictEntry} {ep : Nat}, s₁.heap.get? b = some o → o.data = .dict es ep → H b = none := by
    intro b o es ep e d
    cases q : H b with
    | none => rfl
    | some u =>
      have z := hA b (by simp [q])
      subst z
      rw [ha] at e
      cases e
      cases d
  have ns_of : ∀ {b : Addr} {m : Str → Option Value}, s₁.heap.Ns b m → (hidT s₁.heap H).Ns b m := by
    rintro b m ⟨o, es, ep, e, d, r⟩
    exact ⟨o, es, ep, hid e (free e d), d, r⟩
  have kin : K.In (hidT s₁.heap H) := by
    intro b o e
    refine hid (KX b o e) ?_
    cases q : H b with
    | none => rfl
    | some u =>
      have z := hA b (by simp [q])
      subst z
      rw [hK (by simp [q])] at e
      cases e
  have md : Mod K mg (hidT s₁.heap H) := by
    obtain ⟨mc, h1, h2⟩ := hlim
    exact ⟨kin, ns_of hns, ⟨mb, ns_of hb, hbb⟩, mc, ns_of h1, h2⟩
  have e0 : Env0 P w K mg (hidT s₁.heap H) callerA [] s₁ H := ⟨rfl, md, fun b o e => of_hidT e, Nat.le_of_eq (hidT_size _ _), trivial, fun b hb => (nomatch (show b ∈ ([] : List Addr) from hb)), hok, .of_eq hg⟩
  refine codeAny_mono ((F _ kin (ns_of hns)).run callerA [] s₁ H ⟨[.ref a], []⟩ [Value.ref a] [V.ref a] (fun v _ => v = .bl true) (fun _ _ _ => False) rfl hr e0 (hbind s₁ (.ref a)) (.cons rfl .nil) hsp) ?_
  intro r s' h
  rcases r with e | fl
  · exact h.elim
  rcases fl with _ | _ | _ | u
  · exact h.elim
  · exact h.elim
  · exact h.elim
  obtain ⟨v, H', os, bare, un, hok', r', q⟩ := h
  obtain rfl : v = .bl true := q
  obtain rfl : u = Value.bool true := r'
  refine ⟨rfl, OldK.of_keep fun b o e => ?_, os, bare⟩
  cases q : H b with
  | none => exact un.keep b o e q (fun z => (nomatch (show b ∈ ([] : List Addr) from z))) (fun z => nomatch z)
  | some u =>
    rcases hO b with z | ⟨ob, xs, z⟩
    · rw [q] at z
      cases z
    · obtain ⟨e1, _⟩ := hok b _ z
      obtain ⟨e2, _⟩ := hok' b _ (un.frzs b ob _ z)
      rw [e] at e1
      cases e1
      exact e2
theorem law_callG (KX : K.In s₁.heap) (hns : s₁.heap.Ns mainGlobals mg) (hb : s₁.heap.Ns builtinsNs mb) (hbb : ∀ x : Str, x ≠ "__name__" → mb x = bootBuiltins x) (hlim : s₁.heap.NoLimit) (hg : s₁.gens = #[])
    (ha : s₁.heap.get? a = some { cls := .type "list", data := .seq vs.toArray }) (hi : IntsAre vs ns) (hl : ns.length ≤ sizeLine) (hr : Room k callerA)
    (F : ∀ base : Heap, K.In base → base.Ns mainGlobals mg → FnG P w K mg base k fa fd [x] sp) (hbind : ∀ (s : Shared) (u : Value), BindsTo s fd ⟨[u], []⟩ [(x, u)])
    (hsp : ∀ H : Hp, Only H → SqL K H a (ns.map V.int) → sp [.ref a] H (fun v _ => v = .bl true) fun _ _ _ => False) :
    codeAny (model P w) callerA (.call (.ref fa) ⟨[.ref a], []⟩) (fun r s' => r = .ok (.ret (.bool true)) ∧ OldK s₁.heap s'.heap ∧ s'.os = s₁.os ∧ AllBare s'.gens) s₁ := by
  have rv := vals_ints hi
  have nv := hi.length
  cases hk : K.lookup a with
  | some o =>
    have e := KX a o hk
    rw [ha] at e
    cases e
    have S : SqL K (fun _ => none) a (ns.map V.int) := .inr ⟨_, vs.toArray, _, hk, rfl, rfl, rfl, by rw [List.size_toArray, nv]; exact hl, by simpa using rv⟩
    have O : Only (fun _ => none) := fun _ => .inl rfl
    exact law_from (H := fun _ => none) O S (fun b u z => (by cases (show (none : Option HO) = some u from z))) (fun b z => absurd rfl z) (fun z => absurd rfl z) KX hns hb hbb hlim hg ha hr F hbind (hsp _ O S)
  | none =>
    let ob : Obj := { cls := .type "list", data := .seq vs.toArray }
    let H : Hp := fun b => if b = a then some (.frz ob (.lst (ns.map V.int))) else none
    have at_ : H a = some (.frz ob (.lst (ns.map V.int))) := if_pos rfl
    have off : ∀ b, b ≠ a → H b = none := fun b h => if_neg h
    have S : SqL K H a (ns.map V.int) := .inl (.inr ⟨ob, at_⟩)
    have O : Only H := fun b => by
      by_cases h : b = a
      · subst h
        exact .inr ⟨_, _, at_⟩
      · exact .inl (off b h)
    refine law_from O S (fun b u z => ?_) (fun b z => ?_) (fun _ => hk) KX hns hb hbb hlim hg ha hr F hbind (hsp _ O S)
    · by_cases h : b = a
      · subst h
        rw [at_] at z
        cases z
        exact ⟨ha, by rw [List.length_map]; exact hl, vs, _, rv, ha⟩
      · rw [off b h] at z
        cases z
    · by_cases h : b = a
      · exact h
      · exact absurd (off b h) z
end
/-- as walk_of, for such a law -/
theorem walk_ofG {l : PySem.W.OpenLaw} {n k : Nat} {q : Program} {loose : List Str} {XP : (Str → Option Value) → Heap → Prop} {YP : World → Heap → Prop} {d : DefRec} {K : Params → PySem.W.Frag} {sp : World → Sp} {x : Str}
    (hn : l.most = some n) (hn2 : n ≤ sizeLine) (hdf : d.params.defaults = []) (hr : Room k callerA) (hY : ∀ (w : World) (h : Heap), YP w h → (K w.params).In h)
    (F : ∀ (w : World) (mg : Str → Option Value) (fa : Addr) (h : Heap), (K w.params).In h → h.Ns mainGlobals mg → mg d.name = some (.ref fa) →
      ∃ fd : FuncData, (∀ (s : Shared) (u : Value), BindsTo s fd ⟨[u], []⟩ [(x, u)]) ∧ ∀ base : Heap, (K w.params).In base → base.Ns mainGlobals mg → FnG l.prog w (K w.params) mg base k fa fd [x] (sp w))
    (hsp : ∀ (w : World) (H : Hp) (a : Addr) (ns : List Int), ns.length ≤ n → Only H → SqL (K w.params) H a (ns.map V.int) → sp w [.ref a] H (fun v _ => v = .bl true) fun _ _ _ => False) :
    PySem.W.WalkO q loose XP YP l.row.toRowW d [] (fun f vs => PySem.call f vs) := by
  refine Att.attach_call hn hdf ?_
  intro w s₀ s₁ mg mb fa o pm cd doc a vs ns G Y ho hd hcd hmg hobj hints hlen hg
  have KX := hY w _ Y
  obtain ⟨fd, hb, hF⟩ := F w mg fa _ KX G.T.g hmg
  exact law_callG KX G.T.g G.T.b G.T.builtins G.T.nolimit hg hobj hints (Nat.le_trans hlen hn2) hr hF hb fun H hO hS => hsp w H a ns hlen hO hS
end Kx
/-! The text by places, and what its top leaves. Made by mkbase.py. -/
namespace K03
open PySem PySem.Spec PyProof.Rows L2 Kx
def top (i : Nat) : Stmt := PySem.Challenge.pw_shownpart_k03_terms_replaced_and_renamed.main.body.getD i (.Pass ⟨0, 0, 0, 0⟩)
abbrev s_preorder : Stmt := top 1
abbrev N_preorder : List Str := ["terms", "found", "waiting", "part"]
theorem sc_preorder : FnScope N_preorder ["terms"] (defScope s_preorder) := ⟨rfl, rfl, rfl, by decide +kernel, rfl, by decide +kernel, by decide +kernel⟩
abbrev s_numbered : Stmt := top 2
abbrev N_numbered : List Str := ["parts"]
theorem sc_numbered : FnScope N_numbered ["parts"] (defScope s_numbered) := ⟨rfl, rfl, rfl, by decide +kernel, rfl, by decide +kernel, by decide +kernel⟩
abbrev s_numbered_rows : Stmt := top 3
abbrev N_numbered_rows : List Str := ["parts", "table", "ready", "numbers", "part", "below", "number", "_"]
theorem sc_numbered_rows : FnScope N_numbered_rows ["parts"] (defScope s_numbered_rows) := ⟨rfl, rfl, rfl, by decide +kernel, rfl, by decide +kernel, by decide +kernel⟩
abbrev s_put_in : Stmt := top 4
abbrev N_put_in : List Str := ["term", "old", "new", "many", "parts", "numbers", "ready", "k", "below", "_"]
theorem sc_put_in : FnScope N_put_in ["term", "old", "new"] (defScope s_put_in) := ⟨rfl, rfl, rfl, by decide +kernel, rfl, by decide +kernel, by decide +kernel⟩
abbrev s_with_names : Stmt := top 5
abbrev N_with_names : List Str := ["term", "names", "ready", "part", "below", "_"]
theorem sc_with_names : FnScope N_with_names ["term", "names"] (defScope s_with_names) := ⟨rfl, rfl, rfl, by decide +kernel, rfl, by decide +kernel, by decide +kernel⟩
abbrev s_is_name : Stmt := top 14
abbrev N_is_name : List Str := ["value"]
theorem sc_is_name : FnScope N_is_name ["value"] (defScope s_is_name) := ⟨rfl, rfl, rfl, by decide +kernel, rfl, by decide +kernel, by decide +kernel⟩
abbrev s_is_term : Stmt := top 15
abbrev N_is_term : List Str := ["value"]
theorem sc_is_term : FnScope N_is_term ["value"] (defScope s_is_term) := ⟨rfl, rfl, rfl, by decide +kernel, rfl, by decide +kernel, by decide +kernel⟩
abbrev s_replaced : Stmt := top 16
abbrev N_replaced : List Str := ["term", "old", "new", "result"]
theorem sc_replaced : FnScope N_replaced ["term", "old", "new"] (defScope s_replaced) := ⟨rfl, rfl, rfl, by decide +kernel, rfl, by decide +kernel, by decide +kernel⟩
abbrev s_renamed : Stmt := top 17
abbrev N_renamed : List Str := ["term", "names"]
theorem sc_renamed : FnScope N_renamed ["term", "names"] (defScope s_renamed) := ⟨rfl, rfl, rfl, by decide +kernel, rfl, by decide +kernel, by decide +kernel⟩
abbrev s_renamed_by : Stmt := top 18
abbrev N_renamed_by : List Str := ["term", "names"]
theorem sc_renamed_by : FnScope N_renamed_by ["term", "names"] (defScope s_renamed_by) := ⟨rfl, rfl, rfl, by decide +kernel, rfl, by decide +kernel, by decide +kernel⟩
abbrev s_check_term : Stmt := top 19
abbrev N_check_term : List Str := ["value"]
theorem sc_check_term : FnScope N_check_term ["value"] (defScope s_check_term) := ⟨rfl, rfl, rfl, by decide +kernel, rfl, by decide +kernel, by decide +kernel⟩
abbrev s_check_renaming : Stmt := top 20
abbrev N_check_renaming : List Str := ["places", "names", "name"]
theorem sc_check_renaming : FnScope N_check_renaming ["places", "names"] (defScope s_check_renaming) := ⟨rfl, rfl, rfl, by decide +kernel, rfl, by decide +kernel, by decide +kernel⟩
abbrev s_joint_places : Stmt := top 21
abbrev N_joint_places : List Str := ["values", "places", "waiting", "part", "many"]
theorem sc_joint_places : FnScope N_joint_places ["values"] (defScope s_joint_places) := ⟨rfl, rfl, rfl, by decide +kernel, rfl, by decide +kernel, by decide +kernel⟩
abbrev s_has_form : Stmt := top 22
abbrev N_has_form : List Str := ["value"]
theorem sc_has_form : FnScope N_has_form ["value"] (defScope s_has_form) := ⟨rfl, rfl, rfl, by decide +kernel, rfl, by decide +kernel, by decide +kernel⟩
abbrev s__law_dice : Stmt := top 24
abbrev N__law_dice : List Str := ["script", "spot", "cell", "great", "mixed"]
theorem sc__law_dice : FnScope N__law_dice ["script", "spot"] (defScope s__law_dice) := ⟨rfl, rfl, rfl, by decide +kernel, rfl, by decide +kernel, by decide +kernel⟩
abbrev s__law_roll : Stmt := top 25
abbrev N__law_roll : List Str := ["dice", "many", "found", "one", "two"]
theorem sc__law_roll : FnScope N__law_roll ["dice", "many"] (defScope s__law_roll) := ⟨rfl, rfl, rfl, by decide +kernel, rfl, by decide +kernel, by decide +kernel⟩
abbrev s__law_pick : Stmt := top 26
abbrev N__law_pick : List Str := ["dice", "items"]
theorem sc__law_pick : FnScope N__law_pick ["dice", "items"] (defScope s__law_pick) := ⟨rfl, rfl, rfl, by decide +kernel, rfl, by decide +kernel, by decide +kernel⟩
abbrev s__law_mixed : Stmt := top 27
abbrev N__law_mixed : List Str := ["dice", "items", "left", "found"]
theorem sc__law_mixed : FnScope N__law_mixed ["dice", "items"] (defScope s__law_mixed) := ⟨rfl, rfl, rfl, by decide +kernel, rfl, by decide +kernel, by decide +kernel⟩
abbrev s__law_below : Stmt := top 28
abbrev N__law_below : List Str := ["term", "found", "part"]
theorem sc__law_below : FnScope N__law_below ["term"] (defScope s__law_below) := ⟨rfl, rfl, rfl, by decide +kernel, rfl, by decide +kernel, by decide +kernel⟩
abbrev s__law_names : Stmt := top 29
abbrev N__law_names : List Str := ["dice", "few", "pools", "cells", "name", "found"]
theorem sc__law_names : FnScope N__law_names ["dice", "few"] (defScope s__law_names) := ⟨rfl, rfl, rfl, by decide +kernel, rfl, by decide +kernel, by decide +kernel⟩
abbrev s__law_term : Stmt := top 30
abbrev N__law_term : List Str := ["dice", "names", "deep", "some", "name", "places", "row", "turn"]
theorem sc__law_term : FnScope N__law_term ["dice", "names", "deep"] (defScope s__law_term) := ⟨rfl, rfl, rfl, by decide +kernel, rfl, by decide +kernel, by decide +kernel⟩
abbrev s__law_put : Stmt := top 31
abbrev N__law_put : List Str := ["term", "old", "new", "part"]
theorem sc__law_put : FnScope N__law_put ["term", "old", "new"] (defScope s__law_put) := ⟨rfl, rfl, rfl, by decide +kernel, rfl, by decide +kernel, by decide +kernel⟩
abbrev s__law_is_like : Stmt := top 32
abbrev N__law_is_like : List Str := ["term", "rows", "part", "row"]
theorem sc__law_is_like : FnScope N__law_is_like ["term"] (defScope s__law_is_like) := ⟨rfl, rfl, rfl, by decide +kernel, rfl, by decide +kernel, by decide +kernel⟩
abbrev s__law_other_names : Stmt := top 33
abbrev N__law_other_names : List Str := ["term", "names", "found", "part"]
theorem sc__law_other_names : FnScope N__law_other_names ["term", "names"] (defScope s__law_other_names) := ⟨rfl, rfl, rfl, by decide +kernel, rfl, by decide +kernel, by decide +kernel⟩
abbrev s__law_told : Stmt := top 34
abbrev N__law_told : List Str := ["call"]
theorem sc__law_told : FnScope N__law_told ["call"] (defScope s__law_told) := ⟨rfl, rfl, rfl, by decide +kernel, rfl, by decide +kernel, by decide +kernel⟩
abbrev s__law_due_names : Stmt := top 35
abbrev N__law_due_names : List Str := ["term", "names", "present", "part", "name"]
theorem sc__law_due_names : FnScope N__law_due_names ["term", "names"] (defScope s__law_due_names) := ⟨rfl, rfl, rfl, by decide +kernel, rfl, by decide +kernel, by decide +kernel⟩
abbrev s__law_replaced_right : Stmt := top 36
abbrev N__law_replaced_right : List Str := ["dice", "names", "term", "turn", "some", "due", "told", "new", "old"]
theorem sc__law_replaced_right : FnScope N__law_replaced_right ["dice", "names", "term"] (defScope s__law_replaced_right) := ⟨rfl, rfl, rfl, by decide +kernel, rfl, by decide +kernel, by decide +kernel⟩
abbrev s__law_renaming : Stmt := top 37
abbrev N__law_renaming : List Str := ["dice", "term", "present", "way", "some", "fresh", "found", "name", "part"]
theorem sc__law_renaming : FnScope N__law_renaming ["dice", "term"] (defScope s__law_renaming) := ⟨rfl, rfl, rfl, by decide +kernel, rfl, by decide +kernel, by decide +kernel⟩
abbrev s__law_renamed_right : Stmt := top 38
abbrev N__law_renamed_right : List Str := ["dice", "term", "kept", "due", "few", "told", "names", "one", "three", "two", "name"]
theorem sc__law_renamed_right : FnScope N__law_renamed_right ["dice", "term"] (defScope s__law_renamed_right) := ⟨rfl, rfl, rfl, by decide +kernel, rfl, by decide +kernel, by decide +kernel⟩
abbrev s_law : Stmt := top 39
abbrev N_law : List Str := ["script", "spot", "dice", "names", "turn", "term", "long", "deep", "words", "twice", "one", "double", "told", "due"]
theorem sc_law : FnScope N_law ["script"] (defScope s_law) := ⟨rfl, rfl, rfl, by decide +kernel, rfl, by decide +kernel, by decide +kernel⟩
/-- what the top leaves -/
structure Tx (K : PySem.W.Frag) (mg : Str → Option Value) where
  b_abs : mg "abs" = none
  b_all : mg "all" = none
  b_dict : mg "dict" = none
  b_int : mg "int" = none
  b_isinstance : mg "isinstance" = none
  b_len : mg "len" = none
  b_list : mg "list" = none
  b_max : mg "max" = none
  b_min : mg "min" = none
  b_range : mg "range" = none
  b_repr : mg "repr" = none
  b_set : mg "set" = none
  b_sorted : mg "sorted" = none
  b_str : mg "str" = none
  b_tuple : mg "tuple" = none
  b_zip : mg "zip" = none
  CInvalidName : Addr
  gInvalidName : mg "InvalidName" = some (.ref CInvalidName)
  xInvalidName : PySem.W.excIn K CInvalidName [.type "ValueError", .type "Exception", .type "BaseException", .type "object"] "ValueError.__new__" = true
  kInvalidName : PySem.W.keepIn K (.ref CInvalidName) = true
  bInvalidName : PySem.W.subIn K (.ref CInvalidName) (.type "BaseException") = some true
  tInvalidName : PySem.W.typeIn K (.ref CInvalidName) = some (.type "type")
  eInvalidName : PySem.W.exmOne K (.ref CInvalidName) (.ref CInvalidName) = some true
  CInvalidTerm : Addr
  gInvalidTerm : mg "InvalidTerm" = some (.ref CInvalidTerm)
  xInvalidTerm : PySem.W.excIn K CInvalidTerm [.type "ValueError", .type "Exception", .type "BaseException", .type "object"] "ValueError.__new__" = true
  kInvalidTerm : PySem.W.keepIn K (.ref CInvalidTerm) = true
  bInvalidTerm : PySem.W.subIn K (.ref CInvalidTerm) (.type "BaseException") = some true
  tInvalidTerm : PySem.W.typeIn K (.ref CInvalidTerm) = some (.type "type")
  eInvalidTerm : PySem.W.exmOne K (.ref CInvalidTerm) (.ref CInvalidTerm) = some true
  CInvalidOperation : Addr
  gInvalidOperation : mg "InvalidOperation" = some (.ref CInvalidOperation)
  xInvalidOperation : PySem.W.excIn K CInvalidOperation [.type "ValueError", .type "Exception", .type "BaseException", .type "object"] "ValueError.__new__" = true
  kInvalidOperation : PySem.W.keepIn K (.ref CInvalidOperation) = true
  bInvalidOperation : PySem.W.subIn K (.ref CInvalidOperation) (.type "BaseException") = some true
  tInvalidOperation : PySem.W.typeIn K (.ref CInvalidOperation) = some (.type "type")
  eInvalidOperation : PySem.W.exmOne K (.ref CInvalidOperation) (.ref CInvalidOperation) = some true
  c_MAX_PLACES : ∃ t, mg "MAX_PLACES" = some (.int 3 t)
  c_LONGEST_NAME : ∃ t, mg "LONGEST_NAME" = some (.int 8 t)
  apreorder : Addr
  dpreorder : FuncData
  fpreorder : Fun K "preorder" "preorder" s_preorder apreorder dpreorder
  npreorder : Binds K dpreorder ["terms"] []
  gpreorder : mg "preorder" = some (.ref apreorder)
  anumbered : Addr
  dnumbered : FuncData
  fnumbered : Fun K "numbered" "numbered" s_numbered anumbered dnumbered
  nnumbered : Binds K dnumbered ["parts"] []
  gnumbered : mg "numbered" = some (.ref anumbered)
  anumbered_rows : Addr
  dnumbered_rows : FuncData
  fnumbered_rows : Fun K "numbered_rows" "numbered_rows" s_numbered_rows anumbered_rows dnumbered_rows
  nnumbered_rows : Binds K dnumbered_rows ["parts"] []
  gnumbered_rows : mg "numbered_rows" = some (.ref anumbered_rows)
  aput_in : Addr
  dput_in : FuncData
  fput_in : Fun K "put_in" "put_in" s_put_in aput_in dput_in
  nput_in : Binds K dput_in ["term", "old", "new"] []
  gput_in : mg "put_in" = some (.ref aput_in)
  awith_names : Addr
  dwith_names : FuncData
  fwith_names : Fun K "with_names" "with_names" s_with_names awith_names dwith_names
  nwith_names : Binds K dwith_names ["term", "names"] []
  gwith_names : mg "with_names" = some (.ref awith_names)
  ais_name : Addr
  dis_name : FuncData
  fis_name : Fun K "is_name" "is_name" s_is_name ais_name dis_name
  nis_name : Binds K dis_name ["value"] []
  gis_name : mg "is_name" = some (.ref ais_name)
  ais_term : Addr
  dis_term : FuncData
  fis_term : Fun K "is_term" "is_term" s_is_term ais_term dis_term
  nis_term : Binds K dis_term ["value"] []
  gis_term : mg "is_term" = some (.ref ais_term)
  areplaced : Addr
  dreplaced : FuncData
  freplaced : Fun K "replaced" "replaced" s_replaced areplaced dreplaced
  nreplaced : Binds K dreplaced ["term", "old", "new"] []
  greplaced : mg "replaced" = some (.ref areplaced)
  arenamed : Addr
  drenamed : FuncData
  frenamed : Fun K "renamed" "renamed" s_renamed arenamed drenamed
  grenamed : mg "renamed" = some (.ref arenamed)
  arenamed_by : Addr
  drenamed_by : FuncData
  frenamed_by : Fun K "renamed_by" "renamed_by" s_renamed_by arenamed_by drenamed_by
  nrenamed_by : Binds K drenamed_by ["term", "names"] []
  grenamed_by : mg "renamed_by" = some (.ref arenamed_by)
  acheck_term : Addr
  dcheck_term : FuncData
  fcheck_term : Fun K "check_term" "check_term" s_check_term acheck_term dcheck_term
  ncheck_term : Binds K dcheck_term ["value"] []
  gcheck_term : mg "check_term" = some (.ref acheck_term)
  acheck_renaming : Addr
  dcheck_renaming : FuncData
  fcheck_renaming : Fun K "check_renaming" "check_renaming" s_check_renaming acheck_renaming dcheck_renaming
  ncheck_renaming : Binds K dcheck_renaming ["places", "names"] []
  gcheck_renaming : mg "check_renaming" = some (.ref acheck_renaming)
  ajoint_places : Addr
  djoint_places : FuncData
  fjoint_places : Fun K "joint_places" "joint_places" s_joint_places ajoint_places djoint_places
  njoint_places : Binds K djoint_places ["values"] []
  gjoint_places : mg "joint_places" = some (.ref ajoint_places)
  ahas_form : Addr
  dhas_form : FuncData
  fhas_form : Fun K "has_form" "has_form" s_has_form ahas_form dhas_form
  nhas_form : Binds K dhas_form ["value"] []
  ghas_form : mg "has_form" = some (.ref ahas_form)
  a_law_dice : Addr
  d_law_dice : FuncData
  f_law_dice : Fun K "_law_dice" "_law_dice" s__law_dice a_law_dice d_law_dice
  n_law_dice : Binds K d_law_dice ["script", "spot"] []
  g_law_dice : mg "_law_dice" = some (.ref a_law_dice)
  a_law_roll : Addr
  d_law_roll : FuncData
  f_law_roll : Fun K "_law_roll" "_law_roll" s__law_roll a_law_roll d_law_roll
  n_law_roll : Binds K d_law_roll ["dice", "many"] []
  g_law_roll : mg "_law_roll" = some (.ref a_law_roll)
  a_law_pick : Addr
  d_law_pick : FuncData
  f_law_pick : Fun K "_law_pick" "_law_pick" s__law_pick a_law_pick d_law_pick
  n_law_pick : Binds K d_law_pick ["dice", "items"] []
  g_law_pick : mg "_law_pick" = some (.ref a_law_pick)
  a_law_mixed : Addr
  d_law_mixed : FuncData
  f_law_mixed : Fun K "_law_mixed" "_law_mixed" s__law_mixed a_law_mixed d_law_mixed
  n_law_mixed : Binds K d_law_mixed ["dice", "items"] []
  g_law_mixed : mg "_law_mixed" = some (.ref a_law_mixed)
  a_law_below : Addr
  d_law_below : FuncData
  f_law_below : Fun K "_law_below" "_law_below" s__law_below a_law_below d_law_below
  n_law_below : Binds K d_law_below ["term"] []
  g_law_below : mg "_law_below" = some (.ref a_law_below)
  a_law_names : Addr
  d_law_names : FuncData
  f_law_names : Fun K "_law_names" "_law_names" s__law_names a_law_names d_law_names
  n_law_names : Binds K d_law_names ["dice", "few"] []
  g_law_names : mg "_law_names" = some (.ref a_law_names)
  a_law_term : Addr
  d_law_term : FuncData
  f_law_term : Fun K "_law_term" "_law_term" s__law_term a_law_term d_law_term
  n_law_term : Binds K d_law_term ["dice", "names", "deep"] []
  g_law_term : mg "_law_term" = some (.ref a_law_term)
  a_law_put : Addr
  d_law_put : FuncData
  f_law_put : Fun K "_law_put" "_law_put" s__law_put a_law_put d_law_put
  n_law_put : Binds K d_law_put ["term", "old", "new"] []
  g_law_put : mg "_law_put" = some (.ref a_law_put)
  a_law_is_like : Addr
  d_law_is_like : FuncData
  f_law_is_like : Fun K "_law_is_like" "_law_is_like" s__law_is_like a_law_is_like d_law_is_like
  n_law_is_like : Binds K d_law_is_like ["term"] []
  g_law_is_like : mg "_law_is_like" = some (.ref a_law_is_like)
  a_law_other_names : Addr
  d_law_other_names : FuncData
  f_law_other_names : Fun K "_law_other_names" "_law_other_names" s__law_other_names a_law_other_names d_law_other_names
  n_law_other_names : Binds K d_law_other_names ["term", "names"] []
  g_law_other_names : mg "_law_other_names" = some (.ref a_law_other_names)
  a_law_told : Addr
  d_law_told : FuncData
  f_law_told : Fun K "_law_told" "_law_told" s__law_told a_law_told d_law_told
  n_law_told : Binds K d_law_told ["call"] []
  g_law_told : mg "_law_told" = some (.ref a_law_told)
  a_law_due_names : Addr
  d_law_due_names : FuncData
  f_law_due_names : Fun K "_law_due_names" "_law_due_names" s__law_due_names a_law_due_names d_law_due_names
  n_law_due_names : Binds K d_law_due_names ["term", "names"] []
  g_law_due_names : mg "_law_due_names" = some (.ref a_law_due_names)
  a_law_replaced_right : Addr
  d_law_replaced_right : FuncData
  f_law_replaced_right : Fun K "_law_replaced_right" "_law_replaced_right" s__law_replaced_right a_law_replaced_right d_law_replaced_right
  n_law_replaced_right : Binds K d_law_replaced_right ["dice", "names", "term"] []
  g_law_replaced_right : mg "_law_replaced_right" = some (.ref a_law_replaced_right)
  a_law_renaming : Addr
  d_law_renaming : FuncData
  f_law_renaming : Fun K "_law_renaming" "_law_renaming" s__law_renaming a_law_renaming d_law_renaming
  n_law_renaming : Binds K d_law_renaming ["dice", "term"] []
  g_law_renaming : mg "_law_renaming" = some (.ref a_law_renaming)
  a_law_renamed_right : Addr
  d_law_renamed_right : FuncData
  f_law_renamed_right : Fun K "_law_renamed_right" "_law_renamed_right" s__law_renamed_right a_law_renamed_right d_law_renamed_right
  n_law_renamed_right : Binds K d_law_renamed_right ["dice", "term"] []
  g_law_renamed_right : mg "_law_renamed_right" = some (.ref a_law_renamed_right)
  alaw : Addr
  dlaw : FuncData
  flaw : Fun K "law" "law" s_law alaw dlaw
  nlaw : Binds K dlaw ["script"] []
  glaw : mg "law" = some (.ref alaw)
end K03
/-! Data at addresses, its text, its order. -/
namespace Kx
open PySem PySem.Spec PyProof.Rows L2
/-- a key as data -/
def keyD : Key → PyData
  | .inl i => .int i
  | .inr x => .str x
/-- the pairs of a dict as data; the values are flat -/
inductive KvD : List (Key × V) → List (PyData × PyData) → Prop
  | nil : KvD [] []
  | int {k : Key} {i : Int} {r : List (Key × V)} {ds : List (PyData × PyData)} : KvD r ds → KvD ((k, .int i) :: r) ((keyD k, .int i) :: ds)
  | str {k : Key} {x : Str} {r : List (Key × V)} {ds : List (PyData × PyData)} : KvD r ds → KvD ((k, .str x) :: r) ((keyD k, .str x) :: ds)
mutual
/-- v stands for the data d: as Dp, and dicts -/
inductive Dx (K : PySem.W.Frag) (H : Hp) : V → PyData → Prop
  | non : Dx K H .non .none
  | bl (b : Bool) : Dx K H (.bl b) (.bool b)
  | int (i : Int) : Dx K H (.int i) (.int i)
  | str (x : Str) : Dx K H (.str x) (.str x)
  | lst {a : Addr} {xs : List V} {ds : List PyData} : H a = some (.lst xs) → DxAll K H xs ds → Dx K H (.ref a) (.list ds)
  | tup {a : Addr} {xs : List V} {ds : List PyData} : H a = some (.tup xs) → DxAll K H xs ds → Dx K H (.ref a) (.tuple ds)
  | dic {a : Addr} {kvs : List (Key × V)} {ds : List (PyData × PyData)} : H a = some (.dK kvs) → KvD kvs ds → Dx K H (.ref a) (.dict ds)
inductive DxAll (K : PySem.W.Frag) (H : Hp) : List V → List PyData → Prop
  | nil : DxAll K H [] []
  | cons {v : V} {vs : List V} {d : PyData} {ds : List PyData} : Dx K H v d → DxAll K H vs ds → DxAll K H (v :: vs) (d :: ds)
end
section
variable {K : PySem.W.Frag} {H H' : Hp}
theorem Same.tup {a : Addr} {xs : List V} (e : Same H H') (h : SqT K H a xs) : SqT K H' a xs := by
  rcases h with (h | ⟨o, h⟩) | h
  · exact .inl (.inl (e _ _ h))
  · exact .inl (.inr ⟨o, e _ _ h⟩)
  · exact .inr h
mutual
theorem Dx.up (e : Same H H') : ∀ {d : PyData} {v : V}, Dx K H v d → Dx K H' v d
  | .none, _, h => by cases h; exact .non
  | .bool b, _, h => by cases h; exact .bl b
  | .int i, _, h => by cases h; exact .int i
  | .str x, _, h => by cases h; exact .str x
  | .list ds, _, h => by cases h with | lst a b => exact .lst (e _ _ a) (DxAll.up e b)
  | .tuple ds, _, h => by cases h with | tup a b => exact .tup (e _ _ a) (DxAll.up e b)
  | .dict ds, _, h => by cases h with | dic a b => exact .dic (e _ _ a) b
theorem DxAll.up (e : Same H H') : ∀ {ds : List PyData} {vs : List V}, DxAll K H vs ds → DxAll K H' vs ds
  | [], _, h => by cases h; exact .nil
  | d :: ds, _, h => by cases h with | cons a b => exact .cons (Dx.up e a) (DxAll.up e b)
end
mutual
/-- data without dicts -/
theorem Dx.dp : ∀ {d : PyData} {v : V}, d.hasDict = false → Dx K H v d → Dp K H v d
  | .none, _, _, h => by cases h; exact .non
  | .bool b, _, _, h => by cases h; exact .bl b
  | .int i, _, _, h => by cases h; exact .int i
  | .str x, _, _, h => by cases h; exact .str x
  | .list ds, _, z, h => by cases h with | lst a b => exact .lst (.inl (.inl a)) (DxAll.dp (by simpa [PyData.hasDict] using z) b)
  | .tuple ds, _, z, h => by cases h with | tup a b => exact .tup (.inl (.inl a)) (DxAll.dp (by simpa [PyData.hasDict] using z) b)
  | .dict ds, _, z, h => by simp [PyData.hasDict] at z
theorem DxAll.dp : ∀ {ds : List PyData} {vs : List V}, PyData.hasDictAll ds = false → DxAll K H vs ds → DpAll K H vs ds
  | [], _, _, h => by cases h; exact .nil
  | d :: ds, _, z, h => by
    cases h with
    | cons a b =>
      have z' : d.hasDict = false ∧ PyData.hasDictAll ds = false := by simpa [PyData.hasDictAll] using z
      exact .cons (Dx.dp z'.1 a) (DxAll.dp z'.2 b)
end
theorem DxAll.length : ∀ {vs : List V} {ds : List PyData}, DxAll K H vs ds → vs.length = ds.length
  | _, _, .nil => rfl
  | _, _, .cons _ t => by rw [List.length_cons, List.length_cons, DxAll.length t]
theorem DxAll.append : ∀ {vs us : List V} {ds es : List PyData}, DxAll K H vs ds → DxAll K H us es → DxAll K H (vs ++ us) (ds ++ es)
  | _, _, _, _, .nil, h => h
  | _, _, _, _, .cons a t, h => .cons a (DxAll.append t h)
theorem DxAll.get : ∀ {vs : List V} {ds : List PyData} {i : Nat} {d : PyData}, DxAll K H vs ds → ds[i]? = some d → ∃ v, vs[i]? = some v ∧ Dx K H v d
  | _, _, _, _, .nil, h => by simp at h
  | _, _, 0, _, .cons a _, h => by
    simp at h
    subst h
    exact ⟨_, rfl, a⟩
  | _, _, i + 1, _, .cons _ t, h => by
    obtain ⟨v, e, x⟩ := DxAll.get (i := i) t (by simpa using h)
    exact ⟨v, by simpa using e, x⟩
theorem DxAll.take : ∀ {vs : List V} {ds : List PyData} (i : Nat), DxAll K H vs ds → DxAll K H (vs.take i) (ds.take i)
  | _, _, 0, _ => .nil
  | _, _, _ + 1, .nil => .nil
  | _, _, i + 1, .cons a t => .cons a (DxAll.take i t)
theorem DxAll.drop : ∀ {vs : List V} {ds : List PyData} (i : Nat), DxAll K H vs ds → DxAll K H (vs.drop i) (ds.drop i)
  | _, _, 0, h => h
  | _, _, _ + 1, .nil => .nil
  | _, _, i + 1, .cons _ t => DxAll.drop i t
end
/-- the class of data -/
def tyD : PyData → String
  | .none => "NoneType"
  | .bool _ => "bool"
  | .int _ => "int"
  | .str _ => "str"
  | .list _ => "list"
  | .tuple _ => "tuple"
  | .dict _ => "dict"
theorem Dx.ty {K : PySem.W.Frag} {H : Hp} {d : PyData} {v : V} (h : Dx K H v d) : TyX K H v (.type (tyD d)) := by
  cases h with
  | non => exact .base .non
  | bl b => exact .base (.bl b)
  | int i => exact .base (.int i)
  | str x => exact .base (.str x)
  | lst a _ => exact .base (.lst a)
  | tup a _ => exact .base (.tup a)
  | dic a _ => exact .base (.dK a)
mutual
/-- no list within -/
def noL : PyData → Bool
  | .list _ => false
  | .tuple ds => noLs ds
  | _ => true
def noLs : List PyData → Bool
  | [] => true
  | d :: ds => noL d && noLs ds
end
section
variable {X : Cx} {pins : List (Addr × Obj)} {σ : L2.St} {H : Hp} {s : Shared}
theorem kv_reads {P : Program} {w : World} {h : Heap} : ∀ {kvs : List (Key × V)} {ds : List (PyData × PyData)} {vs : List (Key × Value)} {es : List DictEntry}, KvD kvs ds → KV kvs vs → Pairs (mixKind P w) es vs →
    ReadsAll h (es.map (·.key)) (ds.map (·.1)) [] ∧ ReadsAll h (es.map (·.val)) (ds.map (·.2)) []
  | _, _, _, _, .nil, r, p => by
    cases r
    cases p
    exact ⟨.nil, .nil⟩
  | _, _, _, _, .int (k := k) (i := i) t, r, p => by
    cases r with
    | cons r0 rt =>
      cases p with
      | cons p1 p2 pt =>
        obtain ⟨a, b⟩ := kv_reads (h := h) t rt pt
        obtain ⟨r1, tk, r2⟩ := r0
        refine ⟨ReadsAll.cons (as := []) (bs := []) ?_ a, ReadsAll.cons (as := []) (bs := []) ?_ b⟩
        · rw [← r1] at p1
          rcases keyIs_shape p1 with ⟨j, u, rfl, ee⟩ | ⟨x, u, rfl, ee⟩
          · dsimp only; rw [ee]; exact Reads.int j u
          · dsimp only; rw [ee]; exact Reads.str x u
        · dsimp only
          rw [p2, r2]
          exact Reads.int i tk
  | _, _, _, _, .str (k := k) (x := i) t, r, p => by
    cases r with
    | cons r0 rt =>
      cases p with
      | cons p1 p2 pt =>
        obtain ⟨a, b⟩ := kv_reads (h := h) t rt pt
        obtain ⟨r1, tk, r2⟩ := r0
        refine ⟨ReadsAll.cons (as := []) (bs := []) ?_ a, ReadsAll.cons (as := []) (bs := []) ?_ b⟩
        · rw [← r1] at p1
          rcases keyIs_shape p1 with ⟨j, u, rfl, ee⟩ | ⟨x, u, rfl, ee⟩
          · dsimp only; rw [ee]; exact Reads.int j u
          · dsimp only; rw [ee]; exact Reads.str x u
        · dsimp only
          rw [p2, r2]
          exact Reads.str i tk
mutual
theorem Dx.reads (I : Inv X pins σ H s) : ∀ (d : PyData) (v : V) (u : Value), Dx X.K H v d → RelV v u → ∃ as, Reads s.heap u d as ∧ (noL d = true → sysModules ∉ as)
  | .none, _, _, h, r => by
    cases h
    cases r
    exact ⟨_, Reads.none, fun _ => by simp⟩
  | .bool b, _, _, h, r => by
    cases h
    cases r
    exact ⟨_, Reads.bool b, fun _ => by simp⟩
  | .int i, _, _, h, r => by
    cases h
    obtain ⟨t, rfl⟩ := r
    exact ⟨_, Reads.int i t, fun _ => by simp⟩
  | .str x, _, _, h, r => by
    cases h
    obtain ⟨t, rfl⟩ := r
    exact ⟨_, Reads.str x t, fun _ => by simp⟩
  | .list ds, _, _, h, r => by
    cases h with
    | lst hs ha =>
      cases r
      obtain ⟨its, rv, ⟨o, n, ho, hc, _, hd⟩, _⟩ := I.list (SqL.of hs)
      obtain ⟨as, hr, _⟩ := DxAll.reads I ds _ its ha rv
      exact ⟨_, Reads.list ho hc hd hr, fun z => by simp [noL] at z⟩
  | .tuple ds, _, _, h, r => by
    cases h with
    | tup hs ha =>
      cases r
      obtain ⟨its, rv, ⟨o, ho, hc, n, hd⟩, _⟩ := I.tuple (SqT.of hs)
      obtain ⟨as, hr, z⟩ := DxAll.reads I ds _ its ha rv
      exact ⟨_, Reads.tuple ho hc hd hr, fun q => z (by simpa [noL] using q)⟩
  | .dict ds, _, _, h, r => by
    cases h with
    | dic hs ha =>
      cases r
      obtain ⟨_, ns, vs, rv, o, es, ep, h1, h2, h3, h4, h5, h6⟩ := I.hok _ _ hs
      obtain ⟨q1, q2⟩ := kv_reads (h := s.heap) ha rv h5
      refine ⟨_, Reads.dict h1 h2.1 h3 q1 q2, fun _ => ?_⟩
      have ne : ¬ _ = sysModules := beq_eq_false_iff_ne.mp ns
      simp only [List.append_nil, List.mem_singleton]
      exact fun e => ne e.symm
theorem DxAll.reads (I : Inv X pins σ H s) : ∀ (ds : List PyData) (vs : List V) (us : List Value), DxAll X.K H vs ds → Vals vs us → ∃ as, ReadsAll s.heap us ds as ∧ (noLs ds = true → sysModules ∉ as)
  | [], _, _, h, r => by
    cases h
    cases r
    exact ⟨_, ReadsAll.nil, fun _ => by simp⟩
  | d :: ds, _, _, h, r => by
    cases h with
    | cons h1 h2 =>
      cases r with
      | cons r1 r2 =>
        obtain ⟨as, q1, z1⟩ := Dx.reads I d _ _ h1 r1
        obtain ⟨bs, q2, z2⟩ := DxAll.reads I ds _ _ h2 r2
        refine ⟨_, ReadsAll.cons q1 q2, fun z => ?_⟩
        have z' : noL d = true ∧ noLs ds = true := by simpa [noLs] using z
        simp only [List.mem_append, not_or]
        exact ⟨z1 z'.1, z2 z'.2⟩
end
end
section
variable {X : Cx}
/-- repr(x) of data, where nothing around shows itself -/
def rRepr (K : PySem.W.Frag) : List V → Hp → VK → Prop := fun xs H Q => ∃ x d, xs = [x] ∧ Dx K H x d ∧ d.showable = true ∧ (d.hasDict = true → noL d = true) ∧ d.depth ≤ 60 ∧ d.shown.length + 64 ≤ sizeLine ∧ Q (.str d.shown) H
theorem cr_repr (cm : Calm X.A) (hu : X.A.units + 64 < cLine) : CallR X (.builtin "repr") (rRepr X.K) := by
  intro pins s σ H xs us Q I rv h
  obtain ⟨x, d, rfl, hx, sh, hd, dp, sz, q⟩ := h
  obtain ⟨u, rfl, ru⟩ := rv.one
  obtain ⟨as, rd, ns⟩ := Dx.reads I d x u hx ru
  cases rd with
  | none => exact PySem.P.repr_of_none ⟨.str _, H, I.tok _, ⟨_, rfl⟩, q⟩
  | bool b => exact PySem.P.repr_of_bool ⟨.str _, H, I.tok _, ⟨_, rfl⟩, by simpa [PyData.shown] using q⟩
  | int i t => exact PySem.P.repr_of_int (by simpa [PyData.showable] using sh) ⟨.str _, H, I.tok _, ⟨_, rfl⟩, q⟩
  | str z t => exact PySem.P.repr_of_str ⟨.str _, H, I.tok _, ⟨_, rfl⟩, q⟩ (Nat.le_trans (Nat.le_add_right _ 64) (by simpa [PyData.shown] using sz))
  | list h1 h2 h3 h4 =>
    exact repr_of_reads' (.list h1 h2 h3 h4) sh (fun z => ns (hd z)) cm (by omega) (fun _ _ e => e) (fun h' u tk k => ⟨.str _, H, I.kept k, ⟨_, rfl⟩, q⟩) (by omega)
  | tuple h1 h2 h3 h4 =>
    exact repr_of_reads' (.tuple h1 h2 h3 h4) sh (fun z => ns (hd z)) cm (by omega) (fun _ _ e => e) (fun h' u tk k => ⟨.str _, H, I.kept k, ⟨_, rfl⟩, q⟩) (by omega)
  | dict h1 h2 h3 h4 h5 =>
    exact repr_of_reads' (.dict h1 h2 h3 h4 h5) sh (fun z => ns (hd z)) cm (by omega) (fun _ _ e => e) (fun h' u tk k => ⟨.str _, H, I.kept k, ⟨_, rfl⟩, q⟩) (by omega)
/-- sorted(xs), by the data of the items -/
abbrev Item := V × PyData
def rSortD (K : PySem.W.Frag) : List V → Hp → VK → Prop := fun xs H Q => ∃ (a : Addr) (zs : List Item), xs = [.ref a] ∧ SqL K H a (zs.map Prod.fst) ∧ (∀ p, p ∈ zs → Dp K H p.1 p.2) ∧ PySem.W.AllAlike (zs.map Prod.snd) ∧ PySem.W.Sortable (zs.map Prod.snd) ∧
  zs.length ≤ sizeLine ∧ (∀ p, p ∈ zs → p.2.depth ≤ 60) ∧ ∀ p, H p = none → Q (.ref p) (upd H p (.lst ((zs.mergeSort (PySem.W.dataLe false Prod.snd)).map Prod.fst)))
theorem cr_sortedD (hu : X.A.units + 64 < cLine) : CallR X (.builtin "sorted") (rSortD X.K) := by
  intro pins s σ H xs us Q I rv h
  obtain ⟨a, zs, rfl, hl, hz, al, so, sz, dp, q⟩ := h
  obtain ⟨u, rfl, ru⟩ := rv.one
  cases ru
  obtain ⟨its, r, pl, nl⟩ := I.list hl
  have each : ∀ (zs : List Item) (its : List Value), Vals (zs.map Prod.fst) its → (∀ p, p ∈ zs → Dp X.K H p.1 p.2) → PySem.W.EachIs (fun u (p : Item) => RelV p.1 u ∧ ∃ as, Reads s.heap u p.2 as) its zs := by
    intro zs
    induction zs with
    | nil =>
      intro its r _
      cases r
      exact .nil
    | cons p zs ih =>
      intro its r hz
      cases r with
      | cons r1 rt => exact .cons ⟨r1, Dp.reads I _ _ _ (hz p List.mem_cons_self) r1⟩ (ih _ rt fun q hq => hz q (List.mem_cons_of_mem _ hq))
  have e := each zs its r hz
  have back : ∀ {out : List Value} {ys : List Item}, PySem.W.EachIs (fun u (p : Item) => RelV p.1 u ∧ ∃ as, Reads s.heap u p.2 as) out ys → Vals (ys.map Prod.fst) out := by
    intro out ys h
    induction h with
    | nil => exact .nil
    | cons h _ ih => exact .cons h.1 ih
  refine PySem.W.sorted_data pl.isList e (e.mono fun _ _ h => h.2) al so sz (fun b hb => by have := dp b hb; omega) ?_
  intro out ho eo
  obtain ⟨ep, he⟩ := PyProof.Rows.sortedAll_at s.heap its out.toArray
  have rr := back eo
  have ln : ((zs.mergeSort (PySem.W.dataLe false Prod.snd)).map Prod.fst).length ≤ sizeLine := by
    rw [List.length_map, List.length_mergeSort]
    exact sz
  exact ⟨.ref _, upd H (s.heap.objs.size + 1) (.lst ((zs.mergeSort (PySem.W.dataLe false Prod.snd)).map Prod.fst)), I.laid (t' := s.toks) (fun _ _ => PyProof.Rows.sortedAll_old) (Nat.le_succ _) ⟨ln, out, ep, rr, he⟩, rfl, q _ (I.hok.fresh (Nat.le_succ _))⟩
end
end Kx
/-! The dice. -/
namespace K03
open PySem PySem.Spec PyProof.Rows L2 Kx
/-- all but a stands -/
def But (a : Addr) (H H' : Hp) : Prop := ∀ b o, H b = some o → b ≠ a → H' b = some o
theorem But.refl (a : Addr) (H : Hp) : But a H H := fun _ _ h _ => h
theorem But.trans {a : Addr} {H H1 H2 : Hp} (x : But a H H1) (y : But a H1 H2) : But a H H2 := fun b o h n => y b o (x b o h n) n
theorem But.of {a : Addr} {H H' : Hp} (x : Same H H') : But a H H' := fun b o h _ => x b o h
theorem But.upd {a : Addr} {H : Hp} {o : HO} : But a H (upd H a o) := fun b u h n => by rw [upd_ne n]; exact h
theorem same_new {H : Hp} {p : Addr} {o : HO} (h : H p = none) : Same H (upd H p o) := fun b x e => by
  rw [upd_ne (ne_of_none e h)]
  exact e
/-- dice at a, rolled n times at most -/
def Dice (H : Hp) (a : Addr) (n : Nat) : Prop := ∃ i0 i1 i2 : Int, H a = some (.lst [.int i0, .int i1, .int i2]) ∧ 0 ≤ i0 ∧ i0 < 2 ^ 2200 ∧ 0 ≤ i1 ∧ i1 < 2 ^ 61 ∧ 0 ≤ i2 ∧ i2 ≤ n
theorem Dice.up {H H' : Hp} {a : Addr} {n : Nat} (d : Dice H a n) (e : Same H H') : Dice H' a n := by
  obtain ⟨i0, i1, i2, h, r⟩ := d
  exact ⟨i0, i1, i2, e _ _ h, r⟩
theorem Dice.le {H : Hp} {a : Addr} {n m : Nat} (d : Dice H a n) (e : n ≤ m) : Dice H a m := by
  obtain ⟨i0, i1, i2, h, a1, a2, a3, a4, a5, a6⟩ := d
  exact ⟨i0, i1, i2, h, a1, a2, a3, a4, a5, by omega⟩
section
variable {P : Program} {w : World} {K : PySem.W.Frag} {mg : Str → Option Value} {base : Heap}
def spDice (K : PySem.W.Frag) : Sp := fun vs H Q _ => ∃ (a : Addr) (ns : List Int) (k : Nat), vs = [.ref a, .int k] ∧ SqL K H a (ns.map V.int) ∧ k < 1000 ∧ ∀ H' p, Same H H' → H p = none → Dice H' p 0 → Q (.ref p) H'
theorem ok_dice (T : Tx K mg) : FnOk P w K mg base CX0 1 T.a_law_dice T.d_law_dice ["script", "spot"] (spDice K) := by
  have nd := sc__law_dice.nd
  refine T.f_law_dice.ok sc__law_dice (fun vs H Q E h => ?_) (fun cdv A outer s H vs Q E hr h => ?_)
  · obtain ⟨a, ns, k, rfl, _⟩ := h
    rfl
  · obtain ⟨a, ns, k, rfl, hS, hk, q⟩ := h
    refine ⟨_, (C8.pss_cut (ps_set (i := 2) nd rfl (.inl rfl) (pe_ifExp (pt_cmpR op_lt (pv 1) (pe_callB call_len_seq (by rfl) T.b_len (by decide +kernel) (pa_cons (pv 0) pa_nil)) (nomark _)) (pe_ix ix_list (pv 0) (pv 1) (fun _ _ => rfl)) (pe_op op_add (pe_op op_mul pe_int (pv 1)) pe_int)))
      (pss_cons (ps_set (i := 3) nd rfl (.inl rfl) (pe_op op_mod (pe_callTy call_int1 (by rfl) T.b_int (by decide +kernel) (pa_cons (pe_callB call_abs (by rfl) T.b_abs (by decide +kernel) (pa_cons (pv 2) pa_nil)) pa_nil)) (pe_op op_powX (pe_op op_pow pe_int pe_int) pe_int)))
      (pss_cons (ps_set (i := 4) nd rfl (.inl rfl) (pe_op op_mul (pe_op op_mod (pe_callTy call_int1 (by rfl) T.b_int (by decide +kernel) (pa_cons (pv 3) pa_nil)) pe_int) pe_int))
      (pss_cons (ps_set (i := 4) nd rfl (.inl rfl) (pe_op op_add (pe_op op_add (pe_op op_add (pv 4) (pe_op op_mul pe_int (pv 1))) (pe_op op_mul pe_int (pe_callTy call_int1 (by rfl) T.b_int (by decide +kernel) (pa_cons (pe_cmpR op_lt (pv 2) pe_int (nomark _)) pa_nil)))) pe_int))
      (pss_one (ps_ret (pe_lst (pa_cons (pe_callB (call_max2 rfl) (by rfl) T.b_max (by decide +kernel) (pa_cons pe_int (pa_cons (pe_op op_add (pe_op op_sub (pv 3) (pe_op op_pow pe_int pe_int)) pe_int) pa_nil))) (pa_cons (pe_op op_mod (pe_callTy call_int1 (by rfl) T.b_int (by decide +kernel) (pa_cons (pv 4) pa_nil)) pe_int) (pa_cons pe_int pa_nil)))))))))), ?_⟩
    -- cell: one or the other int
    refine ⟨fun σ' H' => H' = H ∧ ∃ c : Int, σ' = [some (.ref a), some (.int k), some (.int c), none, none], ?_, ?_⟩
    · refine ⟨_, rfl, .ref a, rfl, a, ns.map V.int, rfl, .inl hS, k, _, rfl, rfl, _, rfl, ite2 (fun hc => ?_) (fun hc => ?_)⟩
      · have lt : k < ns.length := by
          have z := of_decide_eq_true hc
          rw [List.length_map] at z
          omega
        refine ⟨.ref a, rfl, _, rfl, a, ns.map V.int, (k : Int), .int ns[k], rfl, rfl, hS, atI_nat (by rw [List.getElem?_map, List.getElem?_eq_getElem lt]; rfl), rfl, ns[k], rfl⟩
      · exact ⟨_, rfl, 37, k, rfl, rfl, .inl ⟨by decide, by decide⟩, _, _, rfl, rfl, rfl, _, rfl⟩
    rintro σ' H' ⟨rfl, c, rfl⟩
    -- great
    refine ⟨_, rfl, c, rfl, .inl ⟨_, rfl, 10, 59, rfl, rfl, ⟨by decide, by decide, by decide⟩, _, 11, rfl, rfl, ⟨by decide, by decide +kernel⟩, _, _, rfl, rfl, (show (0 : Int) < ((10 : Int) ^ (59 : Int).toNat) ^ (11 : Int).toNat by decide +kernel), ?_⟩⟩
    dsimp only
    have g0 := Int.emod_nonneg (if c < 0 then -c else c) (show ((10 : Int) ^ (59 : Int).toNat) ^ (11 : Int).toNat ≠ 0 by decide +kernel)
    have g1 := Int.emod_lt_of_pos (if c < 0 then -c else c) (show (0 : Int) < ((10 : Int) ^ (59 : Int).toNat) ^ (11 : Int).toNat by decide +kernel)
    have g2 : ((10 : Int) ^ (59 : Int).toNat) ^ (11 : Int).toNat < 2 ^ 2200 := by decide +kernel
    have g3 := Int.lt_trans g1 g2
    clear g1 g2
    generalize (if c < 0 then -c else c) % ((10 : Int) ^ (59 : Int).toNat) ^ (11 : Int).toNat = g at g0 g3 ⊢
    -- mixed
    refine ⟨_, rfl, .inl ⟨g, rfl, g, 2305843009213693951, rfl, rfl, (show (0 : Int) < 2305843009213693951 by decide), _, 7046029254386353, rfl, rfl, .inr ⟨by decide, by decide⟩, ?_⟩⟩
    refine ⟨_, rfl, _, rfl, 131, k, rfl, rfl, .inl ⟨by decide, by decide⟩, _, _, rfl, rfl, _, rfl, c, 0, rfl, rfl, .inr ⟨_, rfl, 17, _, rfl, rfl, .inl ⟨by decide, by decide⟩, _, _, rfl, rfl, _, 3, rfl, rfl, ?_⟩⟩
    dsimp only
    generalize g % 2305843009213693951 * 7046029254386353 + 131 * (k : Int) + 17 * (if decide (c < 0) = true then 1 else 0) + 3 = m
    -- the list
    refine ⟨_, rfl, 10, 18, rfl, rfl, ⟨by decide, by decide, by decide⟩, g, _, rfl, rfl, _, 1, rfl, rfl, 0, _, rfl, _, rfl, .inl ⟨m, rfl, m, 2305843009213693921, rfl, rfl, (show (0 : Int) < 2305843009213693921 by decide), by show 3 ≤ sizeLine; decide, fun p np => ?_⟩⟩
    refine q _ p (same_new np) np ⟨_, _, _, upd_same, ?_, ?_, Int.emod_nonneg _ (by decide), Int.lt_trans (Int.emod_lt_of_pos _ (by decide)) (by decide), by decide, by decide⟩
    · split <;> omega
    · split
      · have : (0 : Int) ≤ 10 ^ (18 : Int).toNat := by decide
        have z : (1 : Int) ≤ 10 ^ (18 : Int).toNat := by decide
        omega
      · decide
end
end K03
/-! The dice rolled; an item picked; items mixed. -/
namespace K03
open PySem PySem.Spec PyProof.Rows L2 Kx
section
variable {P : Program} {w : World} {K : PySem.W.Frag} {mg : Str → Option Value} {base : Heap}
def cap : Nat := 1000000
def spRoll : Sp := fun vs H Q _ => ∃ (a : Addr) (n : Nat) (m : Int), vs = [.ref a, .int m] ∧ Dice H a n ∧ n < cap ∧ 0 < m ∧ m < 1000000 ∧ ∀ (r : Int) H', But a H H' → Dice H' a (n + 1) → 0 ≤ r → r < m → Q (.int r) H'
theorem ok_roll (T : Tx K mg) : FnOk P w K mg base CX0 1 T.a_law_roll T.d_law_roll ["dice", "many"] spRoll := by
  have nd := sc__law_roll.nd
  refine T.f_law_roll.ok sc__law_roll (fun vs H Q E h => ?_) (fun cdv A outer s H vs Q E hr h => ?_)
  · obtain ⟨a, n, m, rfl, _⟩ := h
    rfl
  · obtain ⟨a, n, m, rfl, ⟨i0, i1, i2, hd, h0, h1, h2, h3, h4, h5⟩, hn, m0, m1, q⟩ := h
    have sl : SqL K H a [.int i0, .int i1, .int i2] := .inl (.inl hd)
    refine ⟨_, (pss_cons (ps_if (pt_cmpR op_gt (pe_ix ix_list (pv 0) pe_int (fun _ _ => rfl)) pe_int (nomark _)) (pss_cons (ps_set (i := 2) nd rfl (.inl rfl) (pe_op op_mod (pe_callTy call_int1 (by rfl) T.b_int (by decide +kernel) (pa_cons (pe_ix ix_list (pv 0) pe_int (fun _ _ => rfl)) pa_nil)) (pv 1)))
      (pss_cons (ps_asg (pe_op op_fdivW (pe_ix ix_list (pv 0) pe_int (fun _ _ => rfl)) (pv 1)) (pg_sub (pv 0) pe_int set_list))
      (pss_one (ps_ret (pv 2))))) pss_nil)
      (pss_cons (ps_asg (pe_op op_add (pe_ix ix_list (pv 0) pe_int (fun _ _ => rfl)) pe_int) (pg_sub (pv 0) pe_int set_list))
      (pss_cons (ps_set (i := 3) nd rfl (.inl rfl) (pe_op op_mod (pe_callTy call_int1 (by rfl) T.b_int (by decide +kernel) (pa_cons (pe_op op_add (pe_ix ix_list (pv 0) pe_int (fun _ _ => rfl)) (pe_op op_mul pe_int (pe_ix ix_list (pv 0) pe_int (fun _ _ => rfl)))) pa_nil)) pe_int))
      (pss_cons (ps_set (i := 4) nd rfl (.inl rfl) (pe_op op_add (pe_op op_mul (pe_op op_mod (pe_callTy call_int1 (by rfl) T.b_int (by decide +kernel) (pa_cons (pe_op op_mul (pv 3) (pv 3)) pa_nil)) pe_int) (pv 3)) (pe_op op_mul pe_int (pe_ix ix_list (pv 0) pe_int (fun _ _ => rfl)))))
      (pss_one (ps_ret (pe_op op_mod (pe_callTy call_int1 (by rfl) T.b_int (by decide +kernel) (pa_cons (pe_op op_fdiv (pe_op op_mod (pe_callTy call_int1 (by rfl) T.b_int (by decide +kernel) (pa_cons (pe_op op_add (pe_op op_mulW (pv 4) (pv 4)) (pe_ix ix_list (pv 0) pe_int (fun _ _ => rfl))) pa_nil)) pe_int) pe_int) pa_nil)) (pv 1)))))))), ?_⟩
    refine ⟨_, rfl, a, _, _, _, rfl, rfl, sl, atI_nat (j := 0) rfl, i0, 0, rfl, rfl, _, rfl, ite2 (fun hc => ?_) (fun hc => ?_)⟩
    · -- the great number
      refine ⟨_, rfl, a, _, _, _, rfl, rfl, sl, atI_nat (j := 0) rfl, .inl ⟨i0, rfl, _, rfl, i0, m, rfl, rfl, m0, ?_⟩⟩
      refine ⟨_, rfl, a, _, _, _, rfl, rfl, sl, atI_nat (j := 0) rfl, _, rfl, i0, m, rfl, rfl, wide_div m0 (b := 30) (by omega) (by decide) (by decide), _, rfl, a, _, _, 0, rfl, rfl, hd, rfl, ?_⟩
      refine ⟨_, rfl, q _ _ But.upd ⟨i0 / m, i1, i2, upd_same, Int.ediv_nonneg h0 (by omega), Int.lt_of_le_of_lt (Int.ediv_le_self _ h0) h1, h2, h3, h4, by omega⟩ (Int.emod_nonneg _ (by omega)) (Int.emod_lt_of_pos _ m0)⟩
    · -- the small one
      refine ⟨_, rfl, a, _, _, _, rfl, rfl, sl, atI_nat (j := 2) rfl, i2, 1, rfl, rfl, _, rfl, a, _, _, 2, rfl, rfl, hd, rfl, ?_⟩
      have hd2 : (upd H a (.lst ([V.int i0, V.int i1, V.int i2].set 2 (V.int (i2 + 1))))) a = some (.lst [V.int i0, V.int i1, V.int (i2 + 1)]) := upd_same
      have sl2 : SqL K (upd H a (.lst ([V.int i0, V.int i1, V.int i2].set 2 (V.int (i2 + 1))))) a [.int i0, .int i1, .int (i2 + 1)] := .inl (.inl hd2)
      refine ⟨_, rfl, a, _, _, _, rfl, rfl, sl2, atI_nat (j := 1) rfl, _, rfl, a, _, _, _, rfl, rfl, sl2, atI_nat (j := 2) rfl, 1220703125, i2 + 1, rfl, rfl, .inl ⟨by decide, by decide⟩, i1, _, rfl, rfl, .inl ⟨_, rfl, _, 36028797018963913, rfl, rfl, (show (0 : Int) < 36028797018963913 by decide), ?_⟩⟩
      dsimp only
      have o0 := Int.emod_nonneg (i1 + 1220703125 * (i2 + 1)) (show (36028797018963913 : Int) ≠ 0 by decide)
      have o1 := Int.emod_lt_of_pos (i1 + 1220703125 * (i2 + 1)) (show (0 : Int) < 36028797018963913 by decide)
      generalize (i1 + 1220703125 * (i2 + 1)) % 36028797018963913 = one at o0 o1 ⊢
      refine ⟨_, rfl, _, rfl, one, one, rfl, rfl, .inl ⟨by omega, by omega⟩, .inl ⟨_, rfl, _, 18014398509481951, rfl, rfl, (show (0 : Int) < 18014398509481951 by decide), _, rfl, _, one, rfl, rfl, .inr ⟨by omega, by omega⟩, _, rfl, a, _, _, _, rfl, rfl, sl2, atI_nat (j := 2) rfl, 271828183, i2 + 1, rfl, rfl, .inl ⟨by decide, by decide⟩, _, _, rfl, rfl, ?_⟩⟩
      dsimp only
      have x0 := Int.emod_nonneg (one * one) (show (18014398509481951 : Int) ≠ 0 by decide)
      have x1 := Int.emod_lt_of_pos (one * one) (show (0 : Int) < 18014398509481951 by decide)
      generalize one * one % 18014398509481951 = x at x0 x1 ⊢
      have y0 : 0 ≤ x * one := Int.mul_nonneg x0 o0
      have y1 : x * one ≤ 18014398509481951 * 36028797018963913 := Int.mul_le_mul (by omega) (by omega) o0 (by decide)
      generalize x * one = y at y0 y1 ⊢
      have hn' : (i2 + 1 : Int) ≤ 1000001 := by
        unfold cap at hn
        omega
      have t1 : (y + 271828183 * (i2 + 1)).natAbs < 2 ^ 120 := by omega
      generalize y + 271828183 * (i2 + 1) = two at t1 ⊢
      refine ⟨_, rfl, _, rfl, two, two, rfl, rfl, wide_mul t1 t1 (by decide) (by decide) (by decide), _, rfl, a, _, _, _, rfl, rfl, sl2, atI_nat (j := 1) rfl, _, i1, rfl, rfl, .inl ⟨_, rfl, _, 1125899906842597, rfl, rfl, (show (0 : Int) < 1125899906842597 by decide), _, 4096, rfl, rfl, ⟨by decide, by decide⟩, .inl ⟨_, rfl, _, rfl, _, m, rfl, rfl, m0, ?_⟩⟩⟩
      exact q _ _ But.upd ⟨i0, i1, i2 + 1, hd2, h0, h1, h2, h3, by omega, by omega⟩ (Int.emod_nonneg _ (by omega)) (Int.emod_lt_of_pos _ m0)
/-- an item of a list at b -/
def spPick (K : PySem.W.Frag) : Sp := fun vs H Q _ => ∃ (a b : Addr) (n : Nat) (xs : List V), vs = [.ref a, .ref b] ∧ Dice H a n ∧ n < cap ∧ SqL K H b xs ∧ b ≠ a ∧ 0 < xs.length ∧ xs.length < 1000000 ∧ ∀ (i : Nat) (v : V) H', But a H H' → Dice H' a (n + 1) → xs[i]? = some v → Q v H'
theorem But.sq {a b : Addr} {H H' : Hp} {xs : List V} (x : But a H H') (h : SqL K H b xs) (n : b ≠ a) : SqL K H' b xs := by
  rcases h with (h | ⟨o, h⟩) | h
  · exact .inl (.inl (x _ _ h n))
  · exact .inl (.inr ⟨o, x _ _ h n⟩)
  · exact .inr h
theorem ok_pick (T : Tx K mg) : FnOk P w K mg base CX0 2 T.a_law_pick T.d_law_pick ["dice", "items"] (spPick K) := by
  have nd := sc__law_pick.nd
  have G := ok_roll (P := P) (w := w) (base := base) T
  refine T.f_law_pick.ok sc__law_pick (fun vs H Q E h => ?_) (fun cdv A outer s H vs Q E hr h => ?_)
  · obtain ⟨a, b, n, xs, rfl, _⟩ := h
    rfl
  · obtain ⟨a, b, n, xs, rfl, hd, hn, hb, ne, l0, l1, q⟩ := h
    refine ⟨_, (pss_one (ps_ret (pe_ix ix_list (pv 1) (pe_call G (hr.mono (by decide)) (by rfl) T.g_law_roll T.f_law_roll.kp T.n_law_roll .nil pass0 (pa_cons (pv 0) (pa_cons (pe_callB call_len_seq (by rfl) T.b_len (by decide +kernel) (pa_cons (pv 1) pa_nil)) pa_nil))) (fun _ _ => rfl)))), ?_⟩
    refine ⟨_, rfl, _, rfl, _, rfl, b, xs, rfl, .inl hb, a, n, _, rfl, hd, hn, by omega, by omega, fun r H' bt hd' r0 r1 => ?_⟩
    have lt : r.toNat < xs.length := by omega
    have e : xs[r.toNat]? = some xs[r.toNat] := List.getElem?_eq_getElem lt
    refine ⟨b, xs, r, _, rfl, rfl, bt.sq hb ne, ?_, q _ _ _ bt hd' e⟩
    exact at_of (by omega) e
end
end K03
/-! Compared with an empty list, an empty tuple. -/
namespace Kx
open PySem PySem.Spec PyProof.Rows L2
section
variable {X : Cx}
def rNilL (K : PySem.W.Frag) (g : Bool → Bool) : R2 := fun x y H Q => ∃ a b xs, x = .ref a ∧ y = .ref b ∧ SqL K H a xs ∧ SqL K H b [] ∧ Q (.bl (g xs.isEmpty)) H
def rNilT (K : PySem.W.Frag) (g : Bool → Bool) : R2 := fun x y H Q => ∃ a b xs, x = .ref a ∧ y = .ref b ∧ SqT K H a xs ∧ SqT K H b [] ∧ Q (.bl (g xs.isEmpty)) H
theorem op_neNil (hu : X.A.units + 64 < cLine) : OpR X (compareOp .NotEq) (rNilL X.K fun b => !b) := by
  intro pins s σ H x y v u Q I rx ry h
  obtain ⟨a, b, xs, rfl, rfl, ha, hb, q⟩ := h
  cases xs with
  | nil => exact op_neD hu pins s σ H _ _ v u Q I rx ry ⟨.list [], .list [], .lst ha .nil, .lst hb .nil, rfl, rfl, by simpa [PyData.eqv, PyData.eqvAll] using q⟩
  | cons z zs =>
    cases rx
    cases ry
    obtain ⟨i1, r1, p1, _⟩ := I.list ha
    obtain ⟨i2, r2, p2, _⟩ := I.list hb
    cases r2
    have ne : (i1.toArray.size != (#[] : Array Value).size) = true := by
      cases r1
      simp
    exact SeqAt.RcNeAt.lists_lengths p1.isList p2.isList ne (by omega) _ _ _ _ ⟨.bl _, H, I, rfl, q⟩
theorem op_eqNil (hu : X.A.units + 64 < cLine) : OpR X (compareOp .Eq) (rNilL X.K fun b => b) := by
  intro pins s σ H x y v u Q I rx ry h
  obtain ⟨a, b, xs, rfl, rfl, ha, hb, q⟩ := h
  cases xs with
  | nil => exact op_eqD hu pins s σ H _ _ v u Q I rx ry ⟨.list [], .list [], .lst ha .nil, .lst hb .nil, rfl, rfl, by simpa [PyData.eqv, PyData.eqvAll] using q⟩
  | cons z zs =>
    cases rx
    cases ry
    obtain ⟨i1, r1, p1, _⟩ := I.list ha
    obtain ⟨i2, r2, p2, _⟩ := I.list hb
    cases r2
    have ne : (i1.toArray.size != (#[] : Array Value).size) = true := by
      cases r1
      simp
    exact SeqAt.RcAt.lists_lengths p1.isList p2.isList ne (by omega) _ _ _ _ ⟨.bl _, H, I, rfl, q⟩
end
end Kx
/-! Items mixed. -/
namespace K03
open PySem PySem.Spec PyProof.Rows L2 Kx
theorem erase_perm {α : Type} : ∀ {l : List α} {k : Nat} {y : α}, l[k]? = some y → (y :: l.eraseIdx k).Perm l
  | [], _, _, h => by simp at h
  | x :: l, 0, y, h => by
    simp at h
    subst h
    exact List.Perm.refl _
  | x :: l, k + 1, y, h => by
    have ih := erase_perm (l := l) (k := k) (y := y) (by simpa using h)
    rw [List.eraseIdx_cons_succ]
    exact (List.Perm.swap _ _ _).trans (ih.cons x)
theorem Dice.same {H H' : Hp} {a : Addr} {n : Nat} (d : Dice H a n) (e : H' a = H a) : Dice H' a n := by
  obtain ⟨i0, i1, i2, h, r⟩ := d
  exact ⟨i0, i1, i2, by rw [e, h], r⟩
section
variable {P : Program} {w : World} {K : PySem.W.Frag} {mg : Str → Option Value} {base : Heap}
/-- items in another order, a new list -/
def spMixed (K : PySem.W.Frag) : Sp := fun vs H Q _ => ∃ (a b : Addr) (n : Nat) (xs : List V), vs = [.ref a, .ref b] ∧ Dice H a n ∧ n + xs.length < cap ∧ SqL K H b xs ∧ b ≠ a ∧ xs.length < 1000 ∧
  ∀ (ys : List V) (p : Addr) H', But a H H' → Dice H' a (n + xs.length) → ys.Perm xs → H p = none → p ≠ a → H' p = some (.lst ys) → Q (.ref p) H'
theorem ok_mixed (T : Tx K mg) : FnOk P w K mg base CX0 2 T.a_law_mixed T.d_law_mixed ["dice", "items"] (spMixed K) := by
  have nd := sc__law_mixed.nd
  have G := ok_roll (P := P) (w := w) (base := base) T
  refine T.f_law_mixed.ok sc__law_mixed (fun vs H Q E h => ?_) (fun cdv A outer s H vs Q E hr h => ?_)
  · obtain ⟨a, b, n, xs, rfl, _⟩ := h
    rfl
  · obtain ⟨a, b, n, xs, rfl, hd, hn, hb, ne, l1, q⟩ := h
    refine ⟨_, (pss_cons (ps_par (i := 2) (j := 3) (by rfl) nd rfl rfl (by decide) rfl rfl (pa_cons (pe_callTy call_list_of (by rfl) T.b_list (by decide +kernel) (pa_cons (pv 1) pa_nil)) (pa_cons (pe_lst pa_nil) pa_nil)) (by rfl))
      (pss_cons (ps_while PassesOwn.never (pt_cmpR (op_neNil hr.units) (pv 2) (pe_lst pa_nil) (nomark _)) (pss_one (ps_expr (pe_bm PySem.F.plainAttrs_list PySem.F.slot_list_append PySem.F.type_list_append mt_append (pv 3) (pa_cons (pe_bm PySem.F.plainAttrs_list PySem.F.slot_list_pop PySem.F.type_list_pop mt_popAt (pv 2) (pa_cons (pe_call G (hr.mono (by decide)) (by rfl) T.g_law_roll T.f_law_roll.kp T.n_law_roll .nil pass0 (pa_cons (pv 0) (pa_cons (pe_callB call_len_seq (by rfl) T.b_len (by decide +kernel) (pa_cons (pv 2) pa_nil)) pa_nil))) pa_nil)) pa_nil)))))
      (pss_one (ps_ret (pv 3))))), ?_⟩
    have na : ∀ {p : Addr}, H p = none → p ≠ a := fun h e => by
      subst e
      obtain ⟨i0, i1, i2, z, _⟩ := hd
      rw [z] at h
      cases h
    refine ⟨_, rfl, b, xs, rfl, .inl hb, fun l nl => ⟨Nat.zero_le _, fun f nf => ?_⟩⟩
    have nl' : H l = none := nl
    have nfl : f ≠ l := fun e => by
      subst e
      rw [upd_same] at nf
      cases nf
    have nf' : H f = none := by
      rw [← nf, upd_ne nfl]
    refine ⟨_, _, rfl, ?_⟩
    -- the loop: what is left at l, what is found at f
    refine ⟨fun m σ H2 => σ = [some (.ref a), some (.ref b), some (.ref l), some (.ref f)] ∧ ∃ ls fs : List V, m = ls.length ∧ H2 l = some (.lst ls) ∧ H2 f = some (.lst fs) ∧ (fs ++ ls).Perm xs ∧ But a H H2 ∧ Dice H2 a (n + fs.length),
      ⟨xs.length, rfl, xs, [], rfl, ?_, upd_same, List.Perm.refl _, ?_, ?_⟩, ?_⟩
    · rw [upd_ne nfl.symm, upd_same]
    · exact But.of ((same_new nl').trans (same_new nf))
    · exact (hd.up ((same_new nl').trans (same_new nf))).le (by omega)
    rintro m σ H2 ⟨rfl, ls, fs, rfl, el, ef, pm, bt, dd⟩
    have len := pm.length_eq
    rw [List.length_append] at len
    refine ⟨_, rfl, Nat.zero_le _, fun e ne' => ?_⟩
    have s3 : Same H2 (upd H2 e (.lst [])) := same_new ne'
    refine ⟨l, e, ls, rfl, rfl, .inl (.inl (s3 _ _ el)), .inl (.inl upd_same), _, rfl, ?_⟩
    cases ls with
    | nil =>
      -- the end
      refine iteF ⟨_, rfl, q fs f _ (bt.trans (But.of s3)) ((dd.up s3).le ?_) ?_ nf' (na nf') (s3 _ _ ef)⟩
      · simp at len
        omega
      · simpa using pm
    | cons y0 ys0 =>
      refine iteT ⟨fun σ' H' => ∃ m', m' < (y0 :: ys0).length ∧ _, fun _ _ h => h, ?_⟩
      have sl : SqL K (upd H2 e (.lst [])) l (y0 :: ys0) := .inl (.inl (s3 _ _ el))
      rw [List.length_cons] at len
      refine ⟨_, rfl, .inl ⟨rfl, fs, .inl (.inl (s3 _ _ ef))⟩, _, rfl, .inl ⟨rfl, _, sl⟩, _, rfl, _, rfl, l, _, rfl, .inl sl, a, n + fs.length, _, rfl, dd.up s3, by omega, by rw [List.length_cons]; omega, by rw [List.length_cons]; omega, fun r H4 b4 d4 r0 r1 => ?_⟩
      have nla : l ≠ a := na nl'
      have nfa : f ≠ a := na nf'
      have el4 := b4 _ _ (s3 _ _ el) nla
      have ef4 := b4 _ _ (s3 _ _ ef) nfa
      have lt : r.toNat < (y0 :: ys0).length := by omega
      have ey : (y0 :: ys0)[r.toNat]? = some (y0 :: ys0)[r.toNat] := List.getElem?_eq_getElem lt
      generalize (y0 :: ys0)[r.toNat] = y at ey
      have bound : (y0 :: ys0).length < 1000 := by
        rw [List.length_cons]
        omega
      refine ⟨l, _, r, r.toNat, y, rfl, rfl, el4, by omega, by omega, PySem.seqIndex_of r0 r1, ey, ?_⟩
      have ef5 : (upd H4 l (.lst ((y0 :: ys0).eraseIdx r.toNat))) f = some (.lst fs) := by
        rw [upd_ne nfl]
        exact ef4
      refine ⟨f, fs, y, rfl, rfl, ef5, small1000 (by omega), ?_⟩
      have lne : ((y0 :: ys0).eraseIdx r.toNat).length + 1 = (y0 :: ys0).length := by
        rw [List.length_eraseIdx_of_lt lt, Nat.sub_add_cancel (by simp)]
      refine ⟨_, by omega, rfl, (y0 :: ys0).eraseIdx r.toNat, fs ++ [y], rfl, ?_, upd_same, ?_, ?_, ?_⟩
      · rw [upd_ne nfl.symm, upd_same]
      · refine List.Perm.trans ?_ pm
        rw [List.append_assoc]
        exact (erase_perm ey).append_left fs
      · intro c o hc hne
        rw [upd_ne (ne_of_none hc nf'), upd_ne (ne_of_none hc nl')]
        exact b4 _ _ (s3 _ _ (bt c o hc hne)) hne
      · rw [List.length_append, List.length_singleton, ← Nat.add_assoc]
        exact d4.same (by rw [upd_ne nfa.symm, upd_ne nla.symm])
end
end K03
/-! Names and forms. -/
namespace K03
open PySem PySem.Spec PyProof.Rows L2 Kx
def letter (c : Nat) : Bool := decide (97 ≤ c) && decide (c ≤ 122)
def isNm (x : Str) : Bool := decide (1 ≤ x.length) && decide (x.length ≤ 8) && x.cps.all letter
theorem ascii_table : ((List.range 128).all fun c => (letter c == (Unicode.isAlpha c && !(Unicode.isUpper c || Unicode.isTitle c))) && (!letter c || Unicode.isLower c)) = true := by decide +kernel
theorem ascii_at {c : Nat} (h : c < 128) : letter c = (Unicode.isAlpha c && !(Unicode.isUpper c || Unicode.isTitle c)) ∧ (letter c = true → Unicode.isLower c = true) := by
  have z := List.all_eq_true.mp ascii_table c (List.mem_range.mpr h)
  rw [Bool.and_eq_true, beq_iff_eq] at z
  refine ⟨z.1, fun l => ?_⟩
  have y := z.2
  rw [l] at y
  simpa using y
theorem letter_ascii {c : Nat} (h : letter c = true) : c < 128 := by
  unfold letter at h
  simp at h
  omega
theorem name_txt (x : Str) : (Txt.isascii x && (Txt.isalpha x && Txt.islower x)) = (decide (1 ≤ x.length) && x.cps.all letter) := by
  rw [Bool.eq_iff_iff]
  simp only [Bool.and_eq_true, Txt.isascii, Txt.isalpha, Txt.islower, Array.all_eq_true, Array.any_eq_true, Bool.not_eq_true', decide_eq_true_eq]
  constructor
  · rintro ⟨h1, ⟨h2, h3⟩, h4, h5⟩
    refine ⟨h2, fun i hi => ?_⟩
    rw [(ascii_at (by simpa using h1 i hi)).1, h3 i hi, Bool.true_and, Bool.not_eq_true']
    exact (by
      have z : ¬ (x.cps.any fun c => Unicode.isUpper c || Unicode.isTitle c) = true := by rw [h5]; exact Bool.false_ne_true
      rw [Array.any_eq_true] at z
      cases e : (Unicode.isUpper x.cps[i] || Unicode.isTitle x.cps[i]) with
      | false => rfl
      | true => exact absurd ⟨i, hi, e⟩ z)
  · rintro ⟨h1, h2⟩
    have a : ∀ (i : Nat) (hi : i < x.cps.size), x.cps[i] < 128 := fun i hi => letter_ascii (h2 i hi)
    have b : ∀ (i : Nat) (hi : i < x.cps.size), Unicode.isAlpha x.cps[i] = true ∧ (Unicode.isUpper x.cps[i] || Unicode.isTitle x.cps[i]) = false := fun i hi => by
      have z := h2 i hi
      rw [(ascii_at (a i hi)).1] at z
      simpa using z
    refine ⟨fun i hi => by simpa using a i hi, ⟨h1, fun i hi => (b i hi).1⟩, ⟨0, h1, (ascii_at (a 0 h1)).2 (h2 0 h1)⟩, ?_⟩
    cases e : (x.cps.any fun c => Unicode.isUpper c || Unicode.isTitle c) with
    | false => rfl
    | true =>
      obtain ⟨i, hi, z⟩ := Array.any_eq_true.mp e
      rw [(b i hi).2] at z
      cases z
def nameD : PyData → Bool
  | .str x => isNm x
  | _ => false
/-- a tuple of a name and at most three others -/
def formD : PyData → Bool
  | .tuple (d :: ds) => decide (ds.length ≤ 3) && nameD d
  | _ => false
theorem kit_str : ∀ d : PyData, kitB (tyD d) "str" = some (match d with | .str _ => true | _ => false)
  | .none => (by decide +kernel : kitB "NoneType" "str" = some false)
  | .bool _ => (by decide +kernel : kitB "bool" "str" = some false)
  | .int _ => (by decide +kernel : kitB "int" "str" = some false)
  | .str _ => (by decide +kernel : kitB "str" "str" = some true)
  | .list _ => (by decide +kernel : kitB "list" "str" = some false)
  | .tuple _ => (by decide +kernel : kitB "tuple" "str" = some false)
  | .dict _ => (by decide +kernel : kitB "dict" "str" = some false)
theorem kit_tuple : ∀ d : PyData, kitB (tyD d) "tuple" = some (match d with | .tuple _ => true | _ => false)
  | .none => (by decide +kernel : kitB "NoneType" "tuple" = some false)
  | .bool _ => (by decide +kernel : kitB "bool" "tuple" = some false)
  | .int _ => (by decide +kernel : kitB "int" "tuple" = some false)
  | .str _ => (by decide +kernel : kitB "str" "tuple" = some false)
  | .list _ => (by decide +kernel : kitB "list" "tuple" = some false)
  | .tuple _ => (by decide +kernel : kitB "tuple" "tuple" = some true)
  | .dict _ => (by decide +kernel : kitB "dict" "tuple" = some false)
section
variable {P : Program} {w : World} {K : PySem.W.Frag} {mg : Str → Option Value} {base : Heap}
def spNm (K : PySem.W.Frag) : Sp := fun vs H Q _ => ∃ (x : V) (d : PyData), vs = [x] ∧ Dx K H x d ∧ (∀ y, d = .str y → y.length ≤ sizeLine) ∧ Q (.bl (nameD d)) H
theorem ok_name (T : Tx K mg) : FnOk P w K mg base CX0 1 T.ais_name T.dis_name ["value"] (spNm K) := by
  have nd := sc_is_name.nd
  obtain ⟨tk, hL⟩ := T.c_LONGEST_NAME
  refine T.fis_name.ok sc_is_name (fun vs H Q E h => ?_) (fun cdv A outer s H vs Q E hr h => ?_)
  · obtain ⟨x, d, rfl, _⟩ := h
    rfl
  · obtain ⟨x, d, rfl, hx, hz, q⟩ := h
    refine ⟨_, (pss_cons (ps_if (PW.pt (pw_or (pt_not (pt_val (pe_callB call_isi (by rfl) T.b_isinstance (by decide +kernel) (pa_cons (pv 0) (pa_cons (pe_bltn (v := .ty "str") (by rfl) T.b_str (by decide +kernel) rfl) pa_nil))))) (pw_or1 (pt_cmpR op_gt (pe_callB call_len_str (by rfl) T.b_len (by decide +kernel) (pa_cons (pv 0) pa_nil)) (pe_glob (v := .int 8) (by rfl) hL ⟨_, rfl⟩) (nomark _))))) (pss_one (ps_ret pe_bl)) pss_nil)
      (pss_one (ps_ret (pe_and (pe_bm0 PySem.F.plainAttrs_str PySem.F.slot_str_isascii PySem.F.type_str_isascii mt_isascii (pv 0)) (pe_and (pe_bm0 PySem.F.plainAttrs_str PySem.F.slot_str_isalpha PySem.F.type_str_isalpha mt_isalpha (pv 0)) (pe_one (pe_bm0 PySem.F.plainAttrs_str PySem.F.slot_str_islower PySem.F.type_str_islower mt_islower (pv 0)))))))), ?_⟩
    refine ⟨x, rfl, x, .ty "str", _, _, _, rfl, .ty _, hx.ty, kit_ty (kit_str d), _, rfl, ?_⟩
    cases hx with
    | str z =>
      refine iteF ⟨_, rfl, z, rfl, hz z rfl, _, _, rfl, rfl, _, rfl, ite2 (fun h8 => ?_) (fun h8 => ?_)⟩
      · -- too long
        have h9 := of_decide_eq_true h8
        have e : nameD (.str z) = false := by
          simp [nameD, isNm]
          omega
        rw [e] at q
        exact q
      · have h9 : z.length ≤ 8 := by
          simp at h8
          omega
        have e : nameD (.str z) = (Txt.isascii z && (Txt.isalpha z && Txt.islower z)) := by
          rw [name_txt]
          simp [nameD, isNm, h9]
        rw [e] at q
        refine ⟨_, rfl, rfl, z, rfl, rfl, trivial, _, rfl, ?_⟩
        cases e1 : Txt.isascii z with
        | false =>
          rw [e1] at q
          exact iteF q
        | true =>
          rw [e1, Bool.true_and] at q
          refine iteT ⟨_, rfl, rfl, z, rfl, rfl, trivial, _, rfl, ?_⟩
          cases e2 : Txt.isalpha z with
          | false =>
            rw [e2] at q
            exact iteF q
          | true =>
            rw [e2, Bool.true_and] at q
            exact iteT ⟨_, rfl, rfl, z, rfl, rfl, trivial, q⟩
    | non => exact iteT (iteT q)
    | bl b => exact iteT (iteT q)
    | int i => exact iteT (iteT q)
    | lst _ _ => exact iteT (iteT q)
    | tup _ _ => exact iteT (iteT q)
    | dic _ _ => exact iteT (iteT q)
/-- a value's form: a tuple of a name and at most three others -/
def spForm (K : PySem.W.Frag) : Sp := fun vs H Q _ => ∃ (x : V) (d : PyData), vs = [x] ∧ Dx K H x d ∧ (∀ ds, d = .tuple ds → ∀ y, .str y ∈ ds → y.length ≤ sizeLine) ∧ Q (.bl (formD d)) H
theorem ok_form (T : Tx K mg) : FnOk P w K mg base CX0 2 T.ahas_form T.dhas_form ["value"] (spForm K) := by
  have nd := sc_has_form.nd
  obtain ⟨tk, hM⟩ := T.c_MAX_PLACES
  have G := ok_name (P := P) (w := w) (base := base) T
  refine T.fhas_form.ok sc_has_form (fun vs H Q E h => ?_) (fun cdv A outer s H vs Q E hr h => ?_)
  · obtain ⟨x, d, rfl, _⟩ := h
    rfl
  · obtain ⟨x, d, rfl, hx, hz, q⟩ := h
    refine ⟨_, (pss_one (ps_ret (pe_and (pe_callB call_isi (by rfl) T.b_isinstance (by decide +kernel) (pa_cons (pv 0) (pa_cons (pe_bltn (v := .ty "tuple") (by rfl) T.b_tuple (by decide +kernel) rfl) pa_nil))) (pe_and (pe_chain op_le op_le pe_int (pe_callB call_len_seq (by rfl) T.b_len (by decide +kernel) (pa_cons (pv 0) pa_nil)) (pe_op op_add (pe_glob (v := .int 3) (by rfl) hM ⟨_, rfl⟩) pe_int)) (pe_one (pe_call G (hr.mono (by decide)) (by rfl) T.gis_name T.fis_name.kp T.nis_name .nil pass0 (pa_cons (pe_ix ix_tup (pv 0) pe_int (fun _ _ => rfl)) pa_nil))))))), ?_⟩
    refine ⟨x, rfl, x, .ty "tuple", _, _, _, rfl, .ty _, hx.ty, kit_ty (kit_tuple d), _, rfl, ?_⟩
    cases hx with
    | tup ha hs =>
      rename_i a xs ds
      have len := hs.length
      refine iteT ⟨_, rfl, a, xs, rfl, .inr (SqT.of ha), 1, _, rfl, rfl, _, rfl, ite2 (fun h1 => ?_) (fun h1 => ?_)⟩
      · have l1 : 0 < xs.length := by
          have := of_decide_eq_true h1
          omega
        refine ⟨3, 1, rfl, rfl, _, _, rfl, rfl, _, rfl, ite2 (fun h4 => ?_) (fun h4 => ?_)⟩
        · have l4 : xs.length ≤ 4 := by
            have := of_decide_eq_true h4
            omega
          cases hs with
          | nil => simp at l1
          | cons h0 ht =>
            rename_i v vs d ds
            refine ⟨_, rfl, a, _, 0, v, rfl, rfl, SqT.of ha, atI_nat (j := 0) rfl, v, d, rfl, h0, fun y e => hz _ rfl y (by rw [e]; exact List.mem_cons_self), ?_⟩
            have e : formD (.tuple (d :: ds)) = nameD d := by
              have := ht.length
              simp [formD]
              rw [List.length_cons] at l4
              omega
            rw [e] at q
            exact q
        · have e : formD (.tuple ds) = false := by
            cases ds with
            | nil => rfl
            | cons d ds =>
              rw [List.length_cons] at len
              simp [formD]
              intro z
              simp at h4
              omega
          rw [e] at q
          exact q
      · have e : formD (.tuple ds) = false := by
          cases ds with
          | nil => rfl
          | cons d ds =>
            rw [List.length_cons] at len
            simp at h1
            omega
        rw [e] at q
        exact ⟨_, rfl, iteF q⟩
    | non => exact iteF q
    | bl b => exact iteF q
    | int i => exact iteF q
    | lst _ _ => exact iteF q
    | str _ => exact iteF q
    | dic _ _ => exact iteF q
end
end K03
/-! What is a term, over data. -/
namespace K03
open PySem PySem.Spec PyProof.Rows L2 Kx
mutual
/-- how many parts, all counted -/
def szD : PyData → Nat
  | .tuple ds => szAll ds + 1
  | _ => 1
def szAll : List PyData → Nat
  | [] => 0
  | d :: ds => szD d + szAll ds
end
mutual
/-- of the form, all through -/
def formedD : PyData → Bool
  | .tuple (d :: ds) => decide (ds.length ≤ 3) && nameD d && formedAll ds
  | _ => false
def formedAll : List PyData → Bool
  | [] => true
  | d :: ds => formedD d && formedAll ds
end
abbrev NK := Str × Nat
def headD : PyData → Str
  | .str x => x
  | _ => Str.empty
mutual
/-- the names in a formed datum, with their places -/
def rowsD : PyData → List NK
  | .tuple (d :: ds) => (headD d, ds.length) :: rowsAll ds
  | _ => []
def rowsAll : List PyData → List NK
  | [] => []
  | d :: ds => rowsD d ++ rowsAll ds
end
mutual
/-- texts are short -/
def shortD : PyData → Bool
  | .str x => decide (x.length ≤ 1000)
  | .tuple ds => shortAll ds
  | _ => true
def shortAll : List PyData → Bool
  | [] => true
  | d :: ds => shortD d && shortAll ds
end
def Func (l : List NK) : Prop := ∀ p, p ∈ l → ∀ q, q ∈ l → p.1 = q.1 → p.2 = q.2
instance (l : List NK) : Decidable (Func l) := decidable_of_iff (∀ p ∈ l, ∀ q ∈ l, p.1 = q.1 → p.2 = q.2) ⟨fun h => h, fun h => h⟩
def termD (d : PyData) : Bool := formedD d && decide (Func (rowsD d))
theorem szD_pos (d : PyData) : 0 < szD d := by
  cases d <;> simp [szD]
theorem szAll_append : ∀ (l m : List PyData), szAll (l ++ m) = szAll l + szAll m
  | [], m => by simp [szAll]
  | d :: l, m => by simp [szAll, szAll_append l m, Nat.add_assoc]
theorem formedAll_append : ∀ (l m : List PyData), formedAll (l ++ m) = (formedAll l && formedAll m)
  | [], m => by simp [formedAll]
  | d :: l, m => by simp [formedAll, formedAll_append l m, Bool.and_assoc]
theorem rowsAll_append : ∀ (l m : List PyData), rowsAll (l ++ m) = rowsAll l ++ rowsAll m
  | [], m => by simp [rowsAll]
  | d :: l, m => by simp [rowsAll, rowsAll_append l m]
theorem shortAll_append : ∀ (l m : List PyData), shortAll (l ++ m) = (shortAll l && shortAll m)
  | [], m => by simp [shortAll]
  | d :: l, m => by simp [shortAll, shortAll_append l m, Bool.and_assoc]
theorem length_le_sz : ∀ l : List PyData, l.length ≤ szAll l
  | [] => Nat.le_refl _
  | d :: l => by
    have := length_le_sz l
    have := szD_pos d
    simp only [List.length_cons, szAll]
    omega
theorem Func.congr {l m : List NK} (h : ∀ p, p ∈ l ↔ p ∈ m) : Func l ↔ Func m :=
  ⟨fun f p hp q hq => f p ((h p).mpr hp) q ((h q).mpr hq), fun f p hp q hq => f p ((h p).mp hp) q ((h q).mp hq)⟩
/-- what is still to be seen: the names so far, the data that wait -/
def Todo (m : List NK) (st : List PyData) : Prop := formedAll st = true ∧ Func (m ++ rowsAll st)
theorem todo_one (d : PyData) : Todo [] [d] ↔ termD d = true := by
  simp [Todo, termD, formedAll, rowsAll]
theorem todo_bad {m : List NK} {st : List PyData} {e : PyData} (h : formD e = false) : ¬ Todo m (st ++ [e]) := by
  rintro ⟨h1, _⟩
  rw [formedAll_append] at h1
  simp [formedAll] at h1
  cases e with
  | tuple ds =>
    cases ds with
    | nil => simp [formedD] at h1
    | cons d ds =>
      simp [formD] at h
      simp [formedD] at h1
      obtain ⟨_, ⟨a, b⟩, c⟩ := h1
      have := h a
      rw [b] at this
      cases this
  | _ => simp [formedD] at h1
theorem todo_clash {m : List NK} {st ds : List PyData} {x : Str} {k : Nat} (h : (x, k) ∈ m) (hk : k ≠ ds.length) : ¬ Todo m (st ++ [.tuple (.str x :: ds)]) := by
  rintro ⟨_, h2⟩
  refine hk (h2 (x, k) (List.mem_append_left _ h) (x, ds.length) (List.mem_append_right _ ?_) rfl)
  rw [rowsAll_append]
  simp [rowsAll, rowsD, headD]
theorem todo_step {m m' : List NK} {st ds : List PyData} {x : Str} (hf : formD (.tuple (.str x :: ds)) = true) (hm : ∀ p, p ∈ m' ↔ p ∈ m ∨ p = (x, ds.length)) :
    Todo m (st ++ [.tuple (.str x :: ds)]) ↔ Todo m' (st ++ ds) := by
  unfold Todo
  rw [formedAll_append, formedAll_append, rowsAll_append, rowsAll_append]
  have e1 : formedAll [.tuple (.str x :: ds)] = formedAll ds := by
    simp [formD] at hf
    simp [formedAll, formedD, hf.1, hf.2]
  rw [e1]
  refine and_congr Iff.rfl (Func.congr fun p => ?_)
  simp only [List.mem_append, rowsAll, rowsD, headD, hm, List.append_nil, List.mem_cons]
  constructor
  · rintro (h | h | h | h)
    · exact .inl (.inl h)
    · exact .inr (.inl h)
    · exact .inl (.inr h)
    · exact .inr (.inr h)
  · rintro ((h | h) | h | h)
    · exact .inl h
    · exact .inr (.inr (.inl h))
    · exact .inr (.inl h)
    · exact .inr (.inr (.inr h))
theorem todo_done {m : List NK} (h : Func m) : Todo m [] := ⟨rfl, by simpa [rowsAll] using h⟩
end K03
/-! joint_places, is_term, is_cell, check_term. -/
namespace K03
open PySem PySem.Spec PyProof.Rows L2 Kx
theorem snocDx {K : PySem.W.Frag} {H : Hp} : ∀ {vs : List V} {st : List PyData} {e : PyData}, DxAll K H vs (st ++ [e]) → ∃ us v, vs = us ++ [v] ∧ DxAll K H us st ∧ Dx K H v e
  | _, [], e, h => by
    cases h with
    | cons a t =>
      cases t
      exact ⟨[], _, rfl, .nil, a⟩
  | _, d :: st, e, h => by
    cases h with
    | cons a t =>
      obtain ⟨us, v, rfl, q, r⟩ := snocDx t
      exact ⟨_ :: us, v, rfl, .cons a q, r⟩
theorem snoc_or {α : Type} (l : List α) : l = [] ∨ ∃ st e, l = st ++ [e] := by
  rcases List.eq_nil_or_concat l with h | ⟨st, e, h⟩
  · exact .inl h
  · exact .inr ⟨st, e, by rw [h, List.concat_eq_append]⟩
/-- a dict of names and places -/
def dictOf (m : List NK) : List (Key × V) := m.map fun p => (Sum.inr p.1, V.int p.2)
theorem val_some {x : Str} {v : V} : ∀ {m : List NK}, valV (dictOf m) (Sum.inr x) = some v → ∃ k, (x, k) ∈ m ∧ v = .int k
  | [], h => by cases h
  | p :: m, h => by
    by_cases e : p.1 = x
    · rw [show dictOf (p :: m) = (Sum.inr p.1, V.int p.2) :: dictOf m from rfl, valV_pos (by rw [e])] at h
      exact ⟨p.2, by rw [← e]; exact List.mem_cons_self, (Option.some.inj h).symm⟩
    · rw [show dictOf (p :: m) = (Sum.inr p.1, V.int p.2) :: dictOf m from rfl, valV_neg (fun z => e (Sum.inr.inj z))] at h
      obtain ⟨k, a, b⟩ := val_some h
      exact ⟨k, List.mem_cons_of_mem _ a, b⟩
theorem val_none {x : Str} : ∀ {m : List NK}, valV (dictOf m) (Sum.inr x) = none → ∀ k, (x, k) ∉ m
  | [], _, k => fun z => (nomatch z)
  | p :: m, h, k => by
    by_cases e : p.1 = x
    · rw [show dictOf (p :: m) = (Sum.inr p.1, V.int p.2) :: dictOf m from rfl, valV_pos (by rw [e])] at h
      cases h
    · rw [show dictOf (p :: m) = (Sum.inr p.1, V.int p.2) :: dictOf m from rfl, valV_neg (fun z => e (Sum.inr.inj z))] at h
      intro z
      rcases List.mem_cons.mp z with z | z
      · exact e (by rw [← z])
      · exact val_none h k z
theorem short_mem : ∀ {ds : List PyData} {y : Str}, shortAll ds = true → PyData.str y ∈ ds → y.length ≤ 1000
  | [], _, _, h => (nomatch h)
  | d :: ds, y, hs, h => by
    rw [shortAll, Bool.and_eq_true] at hs
    rcases List.mem_cons.mp h with e | h
    · rw [← e] at hs
      simpa [shortD] using hs.1
    · exact short_mem hs.2 h
theorem cut_one {xs : List V} (h : xs ≠ []) : cutV xs (some 1) none = xs.drop 1 := by
  unfold cutV
  rw [show HT.sIx xs.length 0 (some 1) = min 1 xs.length from HT.sIx_nat xs.length 0 1, HT.sIx_none]
  cases xs with
  | nil => exact absurd rfl h
  | cons x r =>
    rw [show min 1 (x :: r).length = 1 by rw [List.length_cons]; omega]
    simp
theorem iteNT {c A B : Prop} [Decidable c] (hc : ¬ c) (h : A) : if (!decide c) = true then A else B := by
  rw [decide_eq_false hc]
  exact iteT h
section
variable {P : Program} {w : World} {K : PySem.W.Frag} {mg : Str → Option Value} {base : Heap}
def spJoint (K : PySem.W.Frag) : Sp := fun vs H Q _ => ∃ (a : Addr) (x : V) (d : PyData), vs = [.ref a] ∧ SqL K H a [x] ∧ Dx K H x d ∧ shortD d = true ∧ szD d ≤ 100000 ∧
  ∀ v H', Same H H' → (termD d = false → v = .non) → (termD d = true → ∃ p ms, v = .ref p ∧ H p = none ∧ H' p = some (.dK (dictOf ms)) ∧ (ms.map Prod.fst).Nodup ∧ ms.length ≤ szD d ∧ ∀ r, r ∈ ms ↔ r ∈ rowsD d) → Q v H'
theorem ok_joint (T : Tx K mg) : FnOk P w K mg base CX0 3 T.ajoint_places T.djoint_places ["values"] (spJoint K) := by
  have nd := sc_joint_places.nd
  have G := ok_form (P := P) (w := w) (base := base) T
  refine T.fjoint_places.ok sc_joint_places (fun vs H Q E h => ?_) (fun cdv A outer s H vs Q E hr h => ?_)
  · obtain ⟨a, x, d, rfl, _⟩ := h
    rfl
  · obtain ⟨a, x, d, rfl, ha, hx, hs, hz, q⟩ := h
    have hu := hu_of hr
    refine ⟨_, (pss_cons (ps_set (i := 1) nd rfl (.inl rfl) pe_dnewK)
      (pss_cons (ps_set (i := 2) nd rfl (.inl rfl) (pe_callTy call_list_of (by rfl) T.b_list (by decide +kernel) (pa_cons (pv 0) pa_nil)))
      (pss_cons (ps_while PassesOwn.never (pt_truth (pv 2) (by intro _; rfl)) (pss_cons (ps_set (i := 3) nd rfl (.inl rfl) (pe_bm0 PySem.F.plainAttrs_list PySem.F.slot_list_pop PySem.F.type_list_pop mt_pop (pv 2)))
      (pss_cons (ps_if (pt_not (pt_val (pe_call G (hr.mono (by decide)) (by rfl) T.ghas_form T.fhas_form.kp T.nhas_form .nil pass0 (pa_cons (pv 3) pa_nil)))) (pss_one (ps_ret pe_non)) pss_nil)
      (pss_cons (ps_set (i := 4) nd rfl (.inl rfl) (pe_op op_sub (pe_callB call_len_seq (by rfl) T.b_len (by decide +kernel) (pa_cons (pv 3) pa_nil)) pe_int))
      (C8.pss_cut (ps_if (pt_cmpR op_ne (pe_dsetd (pv 1) (pe_ix ix_tup (pv 3) pe_int (fun _ _ => rfl)) (pv 4) ⟨by rfl, by rfl, by rfl, by rfl⟩) (pv 4) (nomark _)) (pss_one (ps_ret pe_non)) pss_nil)
      (pss_one (ps_expr (pe_bm PySem.F.plainAttrs_list PySem.F.slot_list_extend PySem.F.type_list_extend mt_extT (pv 2) (pa_cons (pe_slice sl_tupA (pv 3) (po_some pe_int) po_none) pa_nil)))))))))
      (pss_one (ps_ret (pv 1)))))), ?_⟩
    -- places = {}; waiting = list(values)
    intro pl npl
    have s1 : Same H (upd H pl (.dK [])) := same_new npl
    refine ⟨_, rfl, a, [x], rfl, .inl (s1.seq ha), fun wl nwl => ?_⟩
    have nwp : wl ≠ pl := fun e => by
      subst e
      rw [upd_same] at nwl
      cases nwl
    have nwl' : H wl = none := by rw [← nwl, upd_ne nwp]
    have s2 : Same H (upd (upd H pl (.dK [])) wl (.lst [x])) := s1.trans (same_new nwl)
    refine ⟨fun m σ H2 => (∃ y3 y4, σ = [some (.ref a), some (.ref pl), some (.ref wl), y3, y4]) ∧ ∃ (vs : List V) (st : List PyData) (ms : List NK), m = szAll st ∧ H2 wl = some (.lst vs) ∧ H2 pl = some (.dK (dictOf ms)) ∧ Same H H2 ∧ DxAll K H vs st ∧
        shortAll st = true ∧ ms.length + szAll st ≤ szD d ∧ Func ms ∧ (termD d = true ↔ Todo ms st) ∧ (ms.map Prod.fst).Nodup ∧ (∀ r, (r ∈ ms ∨ r ∈ rowsAll st) ↔ r ∈ rowsD d),
      ⟨szAll [d], ⟨none, none, rfl⟩, [x], [d], [], rfl, upd_same, ?_, s2, .cons hx .nil, by simp [shortAll, hs], by simp [szAll], fun p hp => (nomatch hp), (todo_one d).symm, List.nodup_nil, fun r => by simp [rowsAll]⟩, ?_⟩
    · rw [upd_ne nwp.symm, upd_same]
      rfl
    rintro m σ H2 ⟨⟨y3, y4, rfl⟩, vs, st, ms, rfl, ew, ep, sm, dx, sh, bd, fn, iff, nds, mem0⟩
    refine ⟨_, rfl, _, .inl ⟨vs, .inl (.inl ew), rfl⟩, ?_⟩
    rcases snoc_or st with rfl | ⟨st, e, rfl⟩
    · -- nothing waits
      cases dx
      refine iteF ⟨_, rfl, q _ _ sm (fun z => ?_) fun _ => ⟨pl, ms, rfl, npl, ep, nds, by omega, fun r => by rw [← mem0 r]; simp [rowsAll]⟩⟩
      rw [iff.mpr (todo_done fn)] at z
      cases z
    obtain ⟨us, v, rfl, dx', hv⟩ := snocDx dx
    have ne : (!(us ++ [v]).isEmpty) = true := by cases us <;> rfl
    rw [ne]
    rw [shortAll_append, Bool.and_eq_true] at sh
    have she : shortD e = true := by simpa [shortAll] using sh.2
    refine iteT ⟨fun σ' H' => ∃ m', m' < szAll (st ++ [e]) ∧ _, fun _ _ h => h, ?_⟩
    -- part = waiting.pop()
    refine ⟨_, rfl, .inl ⟨rfl, _, .inl (.inl ew)⟩, wl, _, v, rfl, rfl, ew, by simp, ?_⟩
    rw [List.dropLast_concat]
    have sm3 : Same H (upd H2 wl (.lst us)) := fun c o hc => by
      rw [upd_ne (ne_of_none hc nwl')]
      exact sm c o hc
    -- if not has_form(part): return None
    refine ⟨_, rfl, v, e, rfl, hv.up sm3, fun ds he y hy => ?_, _, rfl, ?_⟩
    · subst he
      refine Nat.le_trans (short_mem (by simpa [shortD] using she) hy) (by decide)
    cases hf : formD e with
    | false =>
      refine iteT (q .non _ sm3 (fun _ => rfl) fun z => ?_)
      exact absurd (iff.mp z) (todo_bad hf)
    | true =>
      obtain ⟨x1, es, rfl⟩ : ∃ x1 es, e = .tuple (.str x1 :: es) := by
        cases e with
        | tuple ds =>
          cases ds with
          | nil => cases hf
          | cons d0 ds =>
            simp only [formD, Bool.and_eq_true] at hf
            cases d0 with
            | str z => exact ⟨z, ds, rfl⟩
            | _ => cases hf.2
        | _ => cases hf
      cases hv with
      | tup hb hxs =>
      rename_i b xs
      cases hxs with
      | cons h0 hw =>
      rename_i v0 ws
      cases h0
      have lw := hw.length
      have l3 : es.length ≤ 3 := by
        simp only [formD, Bool.and_eq_true, decide_eq_true_eq] at hf
        exact hf.1
      -- many = len(part) - 1
      refine iteF ⟨_, rfl, b, _, rfl, .inr (SqT.of (sm3 _ _ hb)), _, 1, rfl, rfl, ?_⟩
      have em : ((V.str x1 :: ws).length : Int) - 1 = (es.length : Int) := by
        rw [List.length_cons]
        omega
      dsimp only
      rw [em]
      have ep3 : (upd H2 wl (.lst us)) pl = some (.dK (dictOf ms)) := by rw [upd_ne nwp.symm]; exact ep
      rw [szAll_append] at bd
      have z1 : szAll [PyData.tuple (.str x1 :: es)] = szAll es + 2 := by simp [szAll, szD]; omega
      rw [z1] at bd
      have lm : (dictOf ms).length < sizeLine := by
        rw [dictOf, List.length_map]
        exact Nat.lt_of_le_of_lt (show ms.length ≤ 100000 by omega) (by decide)
      have f0 : ∀ k, (x1, k) ∈ ms → k = es.length → Func ms := fun _ _ _ => fn
      -- places.setdefault(part[0], many) != many
      refine ⟨fun σ' H' => σ' = [some (.ref a), some (.ref pl), some (.ref wl), some (.ref b), some (.int es.length)] ∧ H' wl = some (.lst us) ∧ Same H H' ∧ ∃ ms', H' pl = some (.dK (dictOf ms')) ∧ (∀ p, p ∈ ms' ↔ p ∈ ms ∨ p = (x1, es.length)) ∧ Func ms' ∧ ms'.length ≤ ms.length + 1 ∧ (ms'.map Prod.fst).Nodup, ?_, ?_⟩
      · refine ⟨_, rfl, pl, rfl, .inl ⟨_, .inl ep3⟩, _, rfl, b, _, 0, _, rfl, rfl, SqT.of (sm3 _ _ hb), atI_nat (j := 0) rfl, _, rfl, dictOf ms, Sum.inr x1, ep3, rfl, lm, fun y hy => ?_, fun hy => ?_⟩
        · -- the name is there
          obtain ⟨k, mem, rfl⟩ := val_some hy
          by_cases hk : k = es.length
          · subst hk
            refine ⟨_, rfl, rfl, _, rfl, iteNS rfl ⟨rfl, upd_same, sm3, ms, ep3, fun p => ⟨.inl, fun z => ?_⟩, fn, Nat.le_succ _, nds⟩⟩
            rcases z with z | z
            · exact z
            · rw [z]
              exact mem
          · refine ⟨_, rfl, rfl, _, rfl, iteNT (fun z => hk ?_) (q .non _ sm3 (fun _ => rfl) fun z => ?_)⟩
            · have := V.int.inj z
              omega
            · exact absurd (iff.mp z) (todo_clash mem hk)
        · -- a new name
          have nk := val_none hy
          have npl' : H pl = none := npl
          refine ⟨_, rfl, rfl, _, rfl, iteNS rfl ⟨rfl, ?_, fun c o hc => ?_, ms ++ [(x1, es.length)], ?_, fun p => ?_, ?_, ?_, ?_⟩⟩
          · rw [upd_ne nwp, upd_same]
          · rw [upd_ne (ne_of_none hc npl')]
            exact sm3 c o hc
          · rw [upd_same, putK_new _ hy]
            simp [dictOf]
          · simp
          · rintro ⟨p1, p2⟩ hp ⟨r1, r2⟩ hr' e
            have e' : p1 = r1 := e
            subst e'
            simp only [List.mem_append, List.mem_singleton, Prod.mk.injEq] at hp hr'
            rcases hp with hp | ⟨g1, g2⟩
            · rcases hr' with hr' | ⟨g3, g4⟩
              · exact fn _ hp _ hr' rfl
              · subst g3
                exact absurd hp (nk _)
            · rcases hr' with hr' | ⟨g3, g4⟩
              · subst g1
                exact absurd hr' (nk _)
              · rw [g2, g4]
          · simp
          · rw [List.map_append, List.nodup_append]
            refine ⟨nds, by simp, fun a ha b hb e => ?_⟩
            obtain ⟨⟨r1, r2⟩, hr2, rfl⟩ := List.mem_map.mp ha
            simp at hb
            subst hb
            subst e
            exact nk _ hr2
      rintro σ' H' ⟨rfl, ew', sm', ms', ep', mem', fn', len', nds'⟩
      -- waiting.extend(part[1:])
      refine ⟨_, rfl, .inl ⟨rfl, _, .inl (.inl ew')⟩, _, rfl, 1, rfl, b, _, rfl, SqT.of (sm' _ _ hb), fun z => ?_, fun _ c nc => ?_⟩
      · exfalso
        have := z.1
        rw [show HT.sIx (V.str x1 :: ws).length 0 (some 1) = min 1 (V.str x1 :: ws).length from HT.sIx_nat _ 0 1, List.length_cons] at this
        omega
      have nwc : wl ≠ c := fun e => by
        rw [← e, ew'] at nc
        cases nc
      have npc : pl ≠ c := fun e => by
        rw [← e, ep'] at nc
        cases nc
      have lus := dx'.length
      have lst := length_le_sz st
      refine ⟨wl, c, us, ws, rfl, rfl, by rw [upd_ne nwc]; exact ew', ?_, ?_, ?_⟩
      · rw [cut_one (by simp)]
        exact SqT.of upd_same
      · exact Nat.le_trans (show us.length + ws.length ≤ 100003 by omega) (by decide)
      · refine ⟨szAll (st ++ es), ?_, ⟨_, _, rfl⟩, us ++ ws, st ++ es, ms', rfl, upd_same, ?_, fun d o hd => ?_, DxAll.append dx' hw, ?_, ?_, fn', iff.trans (todo_step hf mem'), nds', fun r => ?_⟩
        · rw [szAll_append, szAll_append, z1]
          omega
        · rw [upd_ne nwp.symm, upd_ne npc]
          exact ep'
        · rw [upd_ne (ne_of_none hd nwl'), upd_ne]
          · exact sm' d o hd
          · rintro rfl
            rw [sm' _ _ hd] at nc
            cases nc
        · rw [shortAll_append, sh.1]
          have z : x1.length ≤ 1000 ∧ shortAll es = true := by simpa [shortD, shortAll] using she
          simpa using z.2
        · rw [szAll_append]
          omega
        · rw [← mem0 r, mem' r, rowsAll_append, rowsAll_append]
          simp only [List.mem_append, rowsAll, rowsD, headD, List.append_nil, List.mem_cons]
          constructor
          · rintro ((h | h) | h | h)
            · exact .inl h
            · exact .inr (.inr (.inl h))
            · exact .inr (.inl h)
            · exact .inr (.inr (.inr h))
          · rintro (h | h | h | h)
            · exact .inl (.inl h)
            · exact .inr (.inl h)
            · exact .inl (.inr h)
            · exact .inr (.inr h)
end
end K03
/-! is_term, is_cell, check_term, make_term, make_cells. -/
namespace Kx
open PySem PySem.Spec PyProof.Rows L2
section
variable {X : Cx} {CX : CXT} {k : Nat} {f : Addr} {sp : Sp} {E : XK} {x : Str} {e : Expr} {es : List Expr} {t : TA} {p pos : Pos}
/-- f(e, ..), f a def with a star -/
theorem pe_callR (F : L2.FnR X.prog X.w X.K X.mg X.base CX k f sp) (hr : Room k X.A) (hg : Gl X x) (hm : X.mg x = some (.ref f)) (hk : PySem.W.keepIn X.K (.ref f) = true) (hx : Passes CX X E) (ha : PA X (e :: es) t) (hd : (x == ("__debug__" : Str)) = false := by decide)
    (he : starEach (e :: es) X.env = (false, eval e X.env) :: starEach es X.env := by rfl) (hpl : (backTo pos (starEach es X.env)).any (·.1) = false := by rfl) :
    PE X (.Call (.Name x p) (e :: es) [] pos) (tCall sp [] E t) := by
  refine ⟨fun pins s σ H Q I h => wpAny_Call_Name_kw (ld_glob I hg hm ?_ hd)⟩
  refine PySem.W.callWith_K (h₀ := X.base) I.ok.mod.kin hk (thn (ha.run pos pins s σ H _ I h) ?_) he hpl
  rintro us s1 ⟨vs, H1, I1, r, q⟩
  rw [List.append_nil] at q
  exact ⟨I1.kIn, wpAny_call (run_fnR F hr hx I1 r q)⟩
theorem pe_callR0 (F : L2.FnR X.prog X.w X.K X.mg X.base CX k f sp) (hr : Room k X.A) (hg : Gl X x) (hm : X.mg x = some (.ref f)) (hk : PySem.W.keepIn X.K (.ref f) = true) (hx : Passes CX X E) (hd : (x == ("__debug__" : Str)) = false := by decide) :
    PE X (.Call (.Name x p) [] [] pos) (tCall sp [] E tNil) := by
  refine ⟨fun pins s σ H Q I h => wpAny_Call_Name_kw (ld_glob I hg hm ?_ hd)⟩
  exact PySem.W.callWith_K0 I.kIn hk (wpAny_call (run_fnR F hr hx I .nil h))
end
end Kx
namespace K03
open PySem PySem.Spec PyProof.Rows L2 Kx
def cellD : PyData → Bool
  | .tuple ds => termD (.tuple ds) && decide (ds.length = 1)
  | _ => false
theorem cellD_eq {d : PyData} (h : termD d = true) : ∃ ds, d = .tuple ds := by
  cases d with
  | tuple ds => exact ⟨ds, rfl⟩
  | _ => simp [termD, formedD] at h
section
variable {P : Program} {w : World} {K : PySem.W.Frag} {mg : Str → Option Value} {base : Heap}
/-- x stands for d, of a bounded size -/
def Dz (K : PySem.W.Frag) (H : Hp) (x : V) (d : PyData) : Prop := Dx K H x d ∧ shortD d = true ∧ szD d ≤ 100000
theorem Dz.up {H H' : Hp} {x : V} {d : PyData} (h : Dz K H x d) (e : Same H H') : Dz K H' x d := ⟨h.1.up e, h.2⟩
def spTerm (K : PySem.W.Frag) : Sp := fun vs H Q _ => ∃ (x : V) (d : PyData), vs = [x] ∧ Dz K H x d ∧ ∀ H', Same H H' → Q (.bl (termD d)) H'
theorem ok_term (T : Tx K mg) : FnOk P w K mg base CX0 4 T.ais_term T.dis_term ["value"] (spTerm K) := by
  have nd := sc_is_term.nd
  have G := ok_joint (P := P) (w := w) (base := base) T
  refine T.fis_term.ok sc_is_term (fun vs H Q E h => ?_) (fun cdv A outer s H vs Q E hr h => ?_)
  · obtain ⟨x, d, rfl, _⟩ := h
    rfl
  · obtain ⟨x, d, rfl, ⟨hx, hs, hz⟩, q⟩ := h
    refine ⟨_, (pss_one (ps_ret (pe_cmpR op_notN (pe_call G (hr.mono (by decide)) (by rfl) T.gjoint_places T.fjoint_places.kp T.njoint_places .nil pass0 (pa_cons (pe_lst (pa_cons (pv 0) pa_nil)) pa_nil)) pe_non (nomark _)))), ?_⟩
    refine ⟨_, rfl, (by show 1 ≤ sizeLine; decide), fun p np => ?_⟩
    refine ⟨p, x, d, rfl, .inl (.inl upd_same), hx.up (same_new np), hs, hz, fun v H' sm n1 n2 => ⟨rfl, ?_⟩⟩
    have fin := q H' ((same_new np).trans sm)
    cases e : termD d with
    | false =>
      rw [e] at fin
      rw [n1 e]
      exact fin
    | true =>
      rw [e] at fin
      obtain ⟨c, _, ec, _⟩ := n2 e
      rw [ec]
      exact fin
def spCheck (K : PySem.W.Frag) : Sp := fun vs H Q _ => ∃ (x : V) (d : PyData), vs = [x] ∧ Dz K H x d ∧ termD d = true ∧ ∀ H', Same H H' → Q .non H'
theorem ok_check (T : Tx K mg) : FnOk P w K mg base CX0 5 T.acheck_term T.dcheck_term ["value"] (spCheck K) := by
  have nd := sc_check_term.nd
  have G := ok_term (P := P) (w := w) (base := base) T
  refine T.fcheck_term.ok sc_check_term (fun vs H Q E h => ?_) (fun cdv A outer s H vs Q E hr h => ?_)
  · obtain ⟨x, d, rfl, _⟩ := h
    rfl
  · obtain ⟨x, d, rfl, hx, ht, q⟩ := h
    refine ⟨_, (pss_one (ps_if (pt_not (pt_val (pe_call G (hr.mono (by decide)) (by rfl) T.gis_term T.fis_term.kp T.nis_term .nil pass0 (pa_cons (pv 0) pa_nil)))) (pss_one ps_never) pss_nil)), ?_⟩
    refine ⟨_, rfl, x, d, rfl, hx, fun H' sm => ⟨_, rfl, ?_⟩⟩
    rw [ht]
    exact iteF (q H' sm)
end
end K03
/-! The parts of a term, listed. -/
namespace K03
open PySem PySem.Spec PyProof.Rows L2 Kx
abbrev Sub := Addr × Str × List V
def rowOf (z : Sub) : NK := (z.2.1, z.2.2.length)
/-- a list of the parts zs at f -/
def SubsAt (H : Hp) (f : Addr) (zs : List Sub) : Prop := H f = some (.lst (zs.map fun z => V.ref z.1)) ∧ ∀ z, z ∈ zs → H z.1 = some (.tup (.str z.2.1 :: z.2.2))
theorem SubsAt.up {H H' : Hp} {f : Addr} {zs : List Sub} (h : SubsAt H f zs) (e : Same H H') : SubsAt H' f zs := ⟨e _ _ h.1, fun z hz => e _ _ (h.2 z hz)⟩
theorem formed_shape {d : PyData} (h : formedD d = true) : ∃ x ds, d = .tuple (.str x :: ds) ∧ ds.length ≤ 3 ∧ isNm x = true ∧ formedAll ds = true := by
  cases d with
  | tuple ds =>
    cases ds with
    | nil => cases h
    | cons d0 ds =>
      simp only [formedD, Bool.and_eq_true, decide_eq_true_eq] at h
      cases d0 with
      | str z => exact ⟨z, ds, rfl, h.1.1, h.1.2, h.2⟩
      | _ => cases h.1.2
  | _ => cases h
theorem formedAll_get : ∀ {ds : List PyData} {i : Nat} {d : PyData}, formedAll ds = true → ds[i]? = some d → formedD d = true
  | [], _, _, _, h => by simp at h
  | x :: ds, 0, d, hf, h => by
    simp at h
    rw [formedAll, Bool.and_eq_true, h] at hf
    exact hf.1
  | x :: ds, i + 1, d, hf, h => by
    rw [formedAll, Bool.and_eq_true] at hf
    exact formedAll_get hf.2 (by simpa using h)
theorem depthAll_get : ∀ {ds : List PyData} {i : Nat} {d : PyData}, ds[i]? = some d → d.depth ≤ PyData.depthAll ds
  | [], _, _, h => by simp at h
  | x :: ds, 0, d, h => by
    simp at h
    rw [h, PyData.depthAll]
    omega
  | x :: ds, i + 1, d, h => by
    have := depthAll_get (ds := ds) (i := i) (d := d) (by simpa using h)
    rw [PyData.depthAll]
    omega
theorem rowsAll_take : ∀ {ds : List PyData} {i : Nat} {d : PyData}, ds[i]? = some d → rowsAll (ds.take (i + 1)) = rowsAll (ds.take i) ++ rowsD d
  | ds, i, d, h => by
    rw [List.take_add_one, h, rowsAll_append]
    simp [rowsAll]
theorem rowsAll_take_le : ∀ (ds : List PyData) (i : Nat), (rowsAll (ds.take i)).length ≤ (rowsAll ds).length
  | ds, i => by
    have e := List.take_append_drop i ds
    have z : rowsAll (ds.take i ++ ds.drop i) = rowsAll ds := by rw [e]
    rw [rowsAll_append] at z
    rw [← z, List.length_append]
    omega
section
variable {P : Program} {w : World} {K : PySem.W.Frag} {mg : Str → Option Value} {base : Heap}
def spBelow (K : PySem.W.Frag) (n : Nat) : Sp := fun vs H Q _ => ∃ (x : V) (d : PyData), vs = [x] ∧ Dx K H x d ∧ formedD d = true ∧ d.depth ≤ n ∧ (rowsD d).length ≤ 1000 ∧
  ∀ p H' (zs : List Sub), Same H H' → H p = none → SubsAt H' p zs → (zs.map rowOf).Perm (rowsD d) → Q (.ref p) H'
theorem ok_below (T : Tx K mg) : ∀ n, FnOk P w K mg base CX0 (n + 1) T.a_law_below T.d_law_below ["term"] (spBelow K n)
  | 0 => by
    refine T.f_law_below.ok sc__law_below (fun vs H Q E h => ?_) (fun cdv A outer s H vs Q E hr h => ?_)
    · obtain ⟨x, d, rfl, _⟩ := h
      rfl
    · exfalso
      obtain ⟨x, d, rfl, hx, hf, hd, _⟩ := h
      obtain ⟨z, ds, rfl, _⟩ := formed_shape hf
      simp [PyData.depth] at hd
  | n + 1 => by
    have nd := sc__law_below.nd
    have G := ok_below T n
    refine T.f_law_below.ok sc__law_below (fun vs H Q E h => ?_) (fun cdv A outer s H vs Q E hr h => ?_)
    · obtain ⟨x, d, rfl, _⟩ := h
      rfl
    · obtain ⟨x, d, rfl, hx, hf, hd, hl, q⟩ := h
      obtain ⟨nm, ds, rfl, l3, hnm, hfa⟩ := formed_shape hf
      cases hx with
      | tup ha hs =>
      rename_i a xs
      cases hs with
      | cons h0 hw =>
      rename_i v0 ws
      cases h0
      have lw := hw.length
      have hdd : PyData.depthAll ds ≤ n := by
        simp only [PyData.depth, PyData.depthAll] at hd
        omega
      refine ⟨_, (pss_cons (ps_set (i := 1) nd rfl (.inl rfl) (pe_lst pa_nil))
      (pss_cons (ps_for PassesOwn.never rfl (pi_tup (pe_slice sl_tupA (pv 0) (po_some pe_int) po_none)) (pg_name (i := 2) nd rfl (.inl rfl)) (pss_one (ps_set (i := 1) nd rfl (.inl rfl) (pe_op op_cat (pv 1) (pe_call G (hr.mono (by omega)) (by rfl) T.g_law_below T.f_law_below.kp T.n_law_below .nil pass0 (pa_cons (pv 2) pa_nil))))))
      (pss_one (ps_ret (pe_op op_cat (pv 1) (pe_lst (pa_cons (pv 0) pa_nil))))))), ?_⟩
      refine ⟨Nat.zero_le _, fun f nf => ?_⟩
      have s1 : Same H (upd H f (.lst [])) := same_new nf
      refine ⟨_, rfl, 1, rfl, a, _, rfl, SqT.of (s1 _ _ ha), fun z => ?_, fun _ c nc => ?_⟩
      · exfalso
        have := z.1
        rw [show HT.sIx (V.str nm :: ws).length 0 (some 1) = min 1 (V.str nm :: ws).length from HT.sIx_nat _ 0 1, List.length_cons] at this
        omega
      rw [cut_one (by simp), List.drop_one, List.tail_cons]
      have s2 : Same H (upd (upd H f (.lst [])) c (.tup ws)) := s1.trans (same_new nc)
      have nfc : f ≠ c := fun e => by
        rw [← e, upd_same] at nc
        cases nc
      refine ⟨c, rfl, ⟨_, SqT.of upd_same⟩, for_tup (K := K) (a := c) (xs := ws) (fun i σ H3 => Same H H3 ∧ H3 c = some (.tup ws) ∧ ∃ (g : Addr) (zs : List Sub) (y : Option V), σ = [some (.ref a), some (.ref g), y] ∧ SubsAt H3 g zs ∧ (zs.map rowOf).Perm (rowsAll (ds.take i)))
        ⟨s2, upd_same, f, [], none, rfl, ⟨by rw [upd_ne nfc, upd_same]; rfl, fun z hz => (nomatch hz)⟩, by simp [rowsAll]⟩ (fun i σ H3 _ h => SqT.of h.2.1) ?_ ?_⟩
      · rintro i y σ H3 hi ⟨sm, ec, g, zs, y0, rfl, sa, pm⟩
        have lt : i < ds.length := by
          rw [← lw]
          exact (List.getElem?_eq_some_iff.mp hi).1
        obtain ⟨v, hv, hx⟩ := hw.get (List.getElem?_eq_getElem lt)
        rw [hi] at hv
        cases hv
        have gd := List.getElem?_eq_getElem lt
        have le1 := rowsAll_take_le ds i
        have le2 := rowsAll_take_le ds (i + 1)
        rw [rowsAll_take gd, List.length_append] at le2
        have lr : (rowsD (.tuple (.str nm :: ds))).length = (rowsAll ds).length + 1 := by simp [rowsD]
        rw [lr] at hl
        have lz : zs.length = (rowsAll (ds.take i)).length := by rw [← pm.length_eq, List.length_map]
        refine ⟨_, rfl, _, rfl, _, _, rfl, hx.up sm, formedAll_get hfa gd, Nat.le_trans (depthAll_get gd) hdd, by omega, fun p H4 zs2 sm4 np sa2 pm2 => ?_⟩
        have lz2 : zs2.length = (rowsD ds[i]).length := by rw [← pm2.length_eq, List.length_map]
        have sa4 := sa.up sm4
        refine ⟨g, p, _, _, rfl, rfl, sa4.1, sa2.1, ?_, fun e ne => ?_⟩
        · rw [List.length_map, List.length_map]
          exact Nat.le_trans (show zs.length + zs2.length ≤ 1000 by omega) (by decide)
        · have sme := same_new (o := .lst ((zs.map fun z => V.ref z.1) ++ zs2.map fun z => V.ref z.1)) ne
          refine ⟨sm.trans (sm4.trans sme), sme _ _ (sm4 _ _ ec), e, zs ++ zs2, _, rfl, ⟨by rw [upd_same, List.map_append], fun z hz => ?_⟩, ?_⟩
          · rcases List.mem_append.mp hz with h | h
            · exact sme _ _ (sa4.2 z h)
            · exact sme _ _ (sa2.2 z h)
          · rw [rowsAll_take gd, List.map_append]
            exact pm.append pm2
      · rintro σ H3 ⟨sm, ec, g, zs, y, rfl, sa, pm⟩
        rw [lw, List.take_length] at pm
        have lz : zs.length = (rowsAll ds).length := by rw [← pm.length_eq, List.length_map]
        have lr : (rowsD (.tuple (.str nm :: ds))).length = (rowsAll ds).length + 1 := by simp [rowsD]
        refine ⟨_, rfl, _, rfl, (by show 1 ≤ sizeLine; decide), fun e ne => ?_⟩
        have sme := same_new (o := .lst [V.ref a]) ne
        refine ⟨g, e, _, _, rfl, rfl, (sa.up sme).1, upd_same, ?_, fun p np => ?_⟩
        · rw [List.length_map]
          exact Nat.le_trans (show zs.length + 1 ≤ 1001 by omega) (by decide)
        have smp := same_new (o := .lst ((zs.map fun z => V.ref z.1) ++ [V.ref a])) np
        have smA := sm.trans (sme.trans smp)
        refine q p _ (zs ++ [(a, nm, ws)]) smA ?_ ⟨by rw [upd_same, List.map_append]; rfl, fun z hz => ?_⟩ ?_
        · exact (sm.trans sme).free np
        · rcases List.mem_append.mp hz with h | h
          · exact (sa.up (sme.trans smp)).2 z h
          · rw [List.mem_singleton.mp h]
            exact smA _ _ ha
        · rw [List.map_append, rowsD]
          refine (pm.append_right _).trans ?_
          have e1 : [(a, nm, ws)].map rowOf = [(headD (.str nm), ds.length)] := by simp [rowOf, headD, lw]
          rw [e1]
          exact List.perm_append_singleton _ _
end
end K03
/-! Terms from left to right: all parts, and what is made of them from the right. -/
namespace K03
open PySem PySem.Spec PyProof.Rows L2 Kx
mutual
/-- all parts of a datum, itself first -/
def preD : PyData → List PyData
  | .tuple (x :: ds) => .tuple (x :: ds) :: preAll ds
  | d => [d]
def preAll : List PyData → List PyData
  | [] => []
  | d :: ds => preD d ++ preAll ds
end
theorem preAll_app : ∀ (l m : List PyData), preAll (l ++ m) = preAll l ++ preAll m
  | [], m => by simp [preAll]
  | d :: l, m => by simp [preAll, preAll_app l m]
def kidsD : PyData → List PyData
  | .tuple (_ :: ds) => ds
  | _ => []
theorem preD_eq {d : PyData} (h : formedD d = true) : preD d = d :: preAll (kidsD d) := by
  obtain ⟨x, ds, rfl, _⟩ := formed_shape h
  simp [preD, kidsD]
/-- one turn of a stack of data, the next one first -/
def turn : List PyData → List PyData
  | [] => []
  | d :: st => kidsD d ++ st
def stk (st : List PyData) : Nat → List PyData
  | 0 => st
  | k + 1 => turn (stk st k)
theorem kids_formed {d : PyData} (h : formedD d = true) : formedAll (kidsD d) = true := by
  obtain ⟨x, ds, rfl, _, _, h⟩ := formed_shape h
  exact h
theorem turn_formed {st : List PyData} (h : formedAll st = true) : formedAll (turn st) = true := by
  cases st with
  | nil => rfl
  | cons d st =>
    rw [formedAll, Bool.and_eq_true] at h
    rw [turn, formedAll_append, kids_formed h.1, h.2]
    rfl
theorem stk_formed {st : List PyData} (h : formedAll st = true) : ∀ k, formedAll (stk st k) = true
  | 0 => h
  | k + 1 => turn_formed (stk_formed h k)
theorem stk_drop {st : List PyData} (h : formedAll st = true) : ∀ k, preAll (stk st k) = (preAll st).drop k
  | 0 => by simp [stk]
  | k + 1 => by
    have e := stk_drop h k
    have f := stk_formed h k
    have e2 : (preAll st).drop (k + 1) = ((preAll st).drop k).tail := by rw [List.tail_drop]
    rw [stk, e2, ← e]
    cases es : stk st k with
    | nil => simp [turn, preAll]
    | cons d r =>
      rw [es, formedAll, Bool.and_eq_true] at f
      rw [turn, preAll, preD_eq f.1, preAll_app]
      rfl
/-- the stack at place k: what stands there comes first -/
theorem stk_at {st : List PyData} (h : formedAll st = true) {k : Nat} {d : PyData} (e : (preAll st)[k]? = some d) : ∃ r, stk st k = d :: r ∧ formedD d = true ∧ formedAll r = true ∧ stk st (k + 1) = kidsD d ++ r := by
  have e1 := stk_drop h k
  have f := stk_formed h k
  have e3 : ((preAll st).drop k)[0]? = some d := by rw [List.getElem?_drop]; exact e
  cases es : stk st k with
  | nil =>
    rw [es, preAll] at e1
    rw [← e1] at e3
    cases e3
  | cons c r =>
    rw [es, formedAll, Bool.and_eq_true] at f
    rw [es, preAll, preD_eq f.1] at e1
    rw [← e1] at e3
    simp at e3
    subst e3
    exact ⟨r, rfl, f.1, f.2, by rw [stk, es, turn]⟩
theorem pre_nil {st : List PyData} (h : formedAll st = true) (e : preAll st = []) : st = [] := by
  cases st with
  | nil => rfl
  | cons d r =>
    rw [formedAll, Bool.and_eq_true] at h
    rw [preAll, preD_eq h.1] at e
    cases e
theorem stk_end {st : List PyData} (h : formedAll st = true) {k : Nat} (e : (preAll st).length ≤ k) : stk st k = [] := by
  refine pre_nil (stk_formed h k) ?_
  rw [stk_drop h k]
  exact List.drop_eq_nil_of_le e
theorem stk_first {d : PyData} {st : List PyData} (hd : formedD d = true) (h : formedAll st = true) : stk (d :: st) (preD d).length = st := by
  have key : ∀ (n : Nat) (l : List PyData), (preAll l).length = n → formedAll l = true → ∀ st, stk (l ++ st) n = st := by
    intro n
    induction n with
    | zero =>
      intro l e f st
      have := pre_nil f (List.length_eq_zero_iff.mp e)
      rw [this]
      rfl
    | succ n ih =>
      intro l e f st
      cases l with
      | nil => cases e
      | cons c l =>
        rw [formedAll, Bool.and_eq_true] at f
        rw [preAll, preD_eq f.1] at e
        have e2 : (preAll (kidsD c ++ l)).length = n := by
          rw [preAll_app]
          simpa using e
        have sh : ∀ (m : Nat) (s : List PyData), stk s (m + 1) = stk (turn s) m := by
          intro m
          induction m with
          | zero => intro s; rfl
          | succ m ihm => intro s; rw [stk, ihm s, stk]
        rw [sh, List.cons_append, turn, ← List.append_assoc]
        exact ih (kidsD c ++ l) e2 (by rw [formedAll_append, kids_formed f.1, f.2]; rfl) st
  have := key (preAll [d]).length [d] rfl (by rw [formedAll, hd]; rfl) st
  rw [preAll, preAll, List.append_nil] at this
  exact this
theorem pre_rows : ∀ (d : PyData), formedD d = true → (preD d).length = (rowsD d).length
  | .tuple (x :: ds), h => by
    rw [formedD, Bool.and_eq_true] at h
    rw [preD, rowsD, List.length_cons, List.length_cons, pre_rowsAll ds h.2]
  | .tuple [], h => by cases h
  | .none, h => by cases h
  | .bool _, h => by cases h
  | .int _, h => by cases h
  | .str _, h => by cases h
  | .list _, h => by cases h
  | .dict _, h => by cases h
where pre_rowsAll : ∀ (ds : List PyData), formedAll ds = true → (preAll ds).length = (rowsAll ds).length
  | [], _ => rfl
  | d :: ds, h => by
    rw [formedAll, Bool.and_eq_true] at h
    rw [preAll, rowsAll, List.length_append, List.length_append, pre_rows d h.1, pre_rowsAll ds h.2]
end K03
/-! Displays of data, all at once. -/
namespace Kx
open PySem PySem.Spec PyProof.Rows L2
/-- the heap without S -/
def OffS (S : List Addr) (H : Hp) : Hp := fun b => if b ∈ S then none else H b
def Olds (S : List Addr) (H : Hp) : Prop := ∀ b, b ∈ S → H b ≠ none
section
variable {S : List Addr} {H H' : Hp}
theorem OffS.of {b : Addr} {o : HO} (h : OffS S H b = some o) : b ∉ S ∧ H b = some o := by
  unfold OffS at h
  by_cases e : b ∈ S
  · rw [if_pos e] at h
    cases h
  · rw [if_neg e] at h
    exact ⟨e, h⟩
theorem OffS.out {b : Addr} {o : HO} (n : b ∉ S) (h : H b = some o) : OffS S H b = some o := by
  unfold OffS
  rw [if_neg n]
  exact h
theorem OffS.same (e : Same H H') : Same (OffS S H) (OffS S H') := fun b o h => by
  obtain ⟨n, h⟩ := OffS.of h
  exact OffS.out n (e b o h)
theorem OffS.all : Same (OffS S H) H := fun b o h => (OffS.of h).2
theorem Olds.up (h : Olds S H) (e : Same H H') : Olds S H' := fun b hb z => by
  have := h b hb
  cases k : H b with
  | none => exact this k
  | some o =>
    rw [e b o k] at z
    cases z
theorem Olds.new {p : Addr} (h : Olds S H) (e : H p = none) : p ∉ S := fun z => h p z e
theorem same_put {p : Addr} {o : HO} (h : H p = none) : Same H (upd H p o) := fun b x e => by
  rw [upd_ne (ne_of_none e h)]
  exact e
/-- te makes d anew -/
def Makes (K : PySem.W.Frag) (S : List Addr) (te : TE) (d : PyData) : Prop := ∀ (σ : L2.St) (H : Hp) (Q : VK), Olds S H → (∀ x H', Same H H' → Dx K (OffS S H') x d → Q x H') → te σ H Q
def MakesAll (K : PySem.W.Frag) (S : List Addr) (ta : TA) (ds : List PyData) : Prop := ∀ (σ : L2.St) (H : Hp) (Q : List V → Hp → Prop), Olds S H → (∀ xs H', Same H H' → DxAll K (OffS S H') xs ds → Q xs H') → ta σ H Q
variable {K : PySem.W.Frag} {te : TE} {ta : TA} {d : PyData} {ds : List PyData}
theorem mk_str (x : Str) : Makes K S (tC (.str x)) (.str x) := fun σ H Q _ q => q _ H (Same.refl H) (.str x)
theorem mk_int (i : Int) : Makes K S (tC (.int i)) (.int i) := fun σ H Q _ q => q _ H (Same.refl H) (.int i)
theorem mk_bl (b : Bool) : Makes K S (tC (.bl b)) (.bool b) := fun σ H Q _ q => q _ H (Same.refl H) (.bl b)
theorem mk_non : Makes K S (tC .non) .none := fun σ H Q _ q => q _ H (Same.refl H) .non
theorem mk_nil : MakesAll K S tNil [] := fun σ H Q _ q => q _ H (Same.refl H) .nil
theorem mk_cons (h1 : Makes K S te d) (h2 : MakesAll K S ta ds) : MakesAll K S (tCons te ta) (d :: ds) := fun σ H Q o q =>
  h1 σ H _ o fun x H1 s1 d1 => h2 σ H1 _ (o.up s1) fun xs H2 s2 d2 => q _ H2 (s1.trans s2) (.cons (d1.up (OffS.same s2)) d2)
theorem mk_tup (h : MakesAll K S ta ds) (few : ds.length ≤ sizeLine := by decide) : Makes K S (tTup ta) (.tuple ds) := fun σ H Q o q =>
  h σ H _ o fun xs H1 s1 d1 => ⟨by rw [d1.length]; exact few, fun p np => q _ _ (s1.trans (same_put np)) (.tup (OffS.out ((o.up s1).new np) upd_same) (d1.up (OffS.same (same_put np))))⟩
theorem mk_lst (h : MakesAll K S ta ds) (few : ds.length ≤ sizeLine := by decide) : Makes K S (tLst ta) (.list ds) := fun σ H Q o q =>
  h σ H _ o fun xs H1 s1 d1 => ⟨by rw [d1.length]; exact few, fun p np => q _ _ (s1.trans (same_put np)) (.lst (OffS.out ((o.up s1).new np) upd_same) (d1.up (OffS.same (same_put np))))⟩
theorem mk_dic0 : Makes K S tDNewK (.dict []) := fun σ H Q o q p np => q _ _ (same_put np) (.dic (OffS.out (o.new np) upd_same) .nil)
theorem mk_dic1 (k : Str) (i : Int) : Makes K S (tDisp [(tC (.str k), tC (.int i))]) (.dict [(.str k, .int i)]) := fun σ H Q o q p np => by
  refine ⟨upd_same, [(.inr k, .int i)], rfl, (by show 1 ≤ 15; decide), q _ _ (fun b u hb => ?_) (.dic (OffS.out (o.new np) upd_same) (KvD.int .nil))⟩
  have n := ne_of_none hb np
  rw [upd_ne n, upd_ne n]
  exact hb
/-- xs + ys of such lists -/
theorem mk_cat {tb : TE} {es : List PyData} (h1 : Makes K S te (.list ds)) (h2 : Makes K S tb (.list es)) (few : ds.length + es.length ≤ sizeLine := by decide) : Makes K S (tOp rCat te tb) (.list (ds ++ es)) := fun σ H Q o q =>
  h1 σ H _ o fun x H1 s1 d1 => h2 σ H1 _ (o.up s1) fun y H2 s2 d2 => by
    have d1 := d1.up (OffS.same s2)
    cases d1 with
    | lst ha hx =>
    cases d2 with
    | lst hb hy =>
    rename_i a xs b ys
    refine ⟨a, b, xs, ys, rfl, rfl, OffS.all _ _ ha, OffS.all _ _ hb, by rw [hx.length, hy.length]; exact few, fun p np => ?_⟩
    exact q _ _ (s1.trans (s2.trans (same_put np))) (.lst (OffS.out (((o.up s1).up s2).new np) upd_same) (DxAll.append (hx.up (OffS.same (same_put np))) (hy.up (OffS.same (same_put np)))))
/-- name = [..] of such data -/
theorem asg_mk {j : Nat} {rest : TS} {D : Ends} {σ : L2.St} (m : Makes K S te d) (o : Olds S H) (q : ∀ x H', Same H H' → Dx K (OffS S H') x d → rest D (σ.set j (some x)) H') : tSeq (tAsg te (gName j)) rest D σ H := m σ H _ o q
/-- name = name + [..] of such data -/
theorem cat_mk {j : Nat} {rest : TS} {D : Ends} {σ : L2.St} {i : Nat} {x : V} {es : List PyData} {tb : TE} (hx : σ[i]? = some (some x)) (d1 : Dx K (OffS S H) x (.list ds)) (m : Makes K S tb (.list es)) (few : ds.length + es.length ≤ sizeLine) (o : Olds S H)
    (q : ∀ x H', Same H H' → Dx K (OffS S H') x (.list (ds ++ es)) → rest D (σ.set j (some x)) H') : tSeq (tAsg (tOp rCat (tVar i) tb) (gName j)) rest D σ H :=
  ⟨x, hx, m σ H _ o fun y H2 s2 d2 => by
    have d1 := d1.up (OffS.same s2)
    cases d1 with
    | @lst a xs _ ha hx =>
    cases d2 with
    | @lst b ys _ hb hy =>
    refine ⟨a, b, xs, ys, rfl, rfl, OffS.all _ _ ha, OffS.all _ _ hb, by rw [hx.length, hy.length]; exact few, fun p np => ?_⟩
    exact q _ _ (s2.trans (same_put np)) (.lst (OffS.out ((o.up s2).new np) upd_same) (DxAll.append (hx.up (OffS.same (same_put np))) (hy.up (OffS.same (same_put np)))))⟩
end
end Kx
/-! t[:0:-1] of a tuple of one to four. -/
namespace Kx
open PySem PySem.Spec PyProof.Rows L2 HT
section
variable {prog : Program} {w : World} {A : Around} {E : Value → Shared → Prop} {s : Shared}
theorem back0_adjust {n : Nat} (h : 1 ≤ n) : Builtin.Slice.sliceAdjust none (some 0) (-1) (n : Int) = ((n : Int) - 1, 0) := by
  have neg : (-1 : Int) < 0 := by decide
  unfold Builtin.Slice.sliceAdjust
  simp only [neg, if_true]
  refine Prod.ext ?_ ?_
  · rfl
  · have no : ¬ ((0 : Int) < 0) := by decide
    simp only [no, if_false]
    omega
theorem back0_places {n : Nat} (h : 1 ≤ n) : Builtin.Slice.slicePlaces ((n : Int) - 1) 0 (-1) = n - 1 := by
  unfold Builtin.Slice.slicePlaces
  have no : ¬ ((-1 : Int) > 0) := by decide
  simp only [no, if_false]
  rw [show -(-1 : Int) = 1 from rfl, Int.ediv_one]
  split <;> omega
theorem back0_pick : ∀ {xs : List Value}, 1 ≤ xs.length → xs.length ≤ 4 → ((List.range (xs.length - 1)).filterMap fun (m : Nat) => xs.toArray[((xs.length : Int) - 1 + (m : Int) * -1).toNat]?) = (xs.drop 1).reverse
  | [a], _, _ => rfl
  | [a, b], _, _ => rfl
  | [a, b, c], _, _ => rfl
  | [a, b, c, d], _, _ => rfl
  | [], h, _ => by simp at h
  | _ :: _ :: _ :: _ :: _ :: _, _, h => by simp at h
theorem back0_applied {sl : Addr} {vl vu vs : Value} {n : Nat} {Q : Int × Int × Nat → Shared → Prop} (hn : 1 ≤ n) (hs : s.heap.IsSliceOf sl vl vu vs) (pl : IsPart vl none) (pu : IsPart vu (some 0)) (ps : IsPart vs (some (-1)))
    (h : Q ((n : Int) - 1, -1, n - 1) s) : wpAny (model prog w) A (Builtin.Slice.sliceApplied (.ref sl) (pure (n : Int))) Q E s := by
  obtain ⟨ob, h1, h2, h3⟩ := id hs
  unfold Builtin.Slice.sliceApplied Builtin.Slice.sliceFields
  refine wpAny_bind (wpAny_bind (wpAny_field h1 h3 (x := vl) rfl (wpAny_bind (wpAny_field h1 h3 (x := vu) rfl (wpAny_bind (wpAny_field h1 h3 (x := vs) rfl (wpAny_pure ?_)))))))
  refine wpAny_bind (slicePart_ ps ?_)
  show wpAny _ _ (if ((-1 : Int) == 0) = true then _ else _) _ _ s
  rw [if_neg (by decide)]
  refine wpAny_bind (slicePart_ pl (wpAny_bind (slicePart_ pu (wpAny_bind (wpAny_pure ?_)))))
  show wpAny _ _ (match Builtin.Slice.sliceAdjust none (some 0) (-1) (n : Int) with | (lo, hi) => pure (lo, (-1 : Int), Builtin.Slice.slicePlaces lo hi (-1))) _ _ s
  rw [back0_adjust hn]
  show wpAny _ _ (pure ((n : Int) - 1, (-1 : Int), Builtin.Slice.slicePlaces ((n : Int) - 1) 0 (-1))) _ _ s
  rw [back0_places hn]
  exact wpAny_pure h
theorem getItem_back0 {t sl : Addr} {xs : List Value} {vl vu vs : Value} {Q : Value → Shared → Prop} (ht : IsTup s.heap t xs.toArray) (h2 : 1 ≤ xs.length) (h4 : xs.length ≤ 4) (hs : s.heap.IsSliceOf sl vl vu vs) (pl : IsPart vl none) (pu : IsPart vu (some 0)) (ps : IsPart vs (some (-1)))
    (h : Q (.ref s.heap.objs.size) { s with heap := s.heap.push { cls := .type "tuple", data := .seq (xs.drop 1).reverse.toArray } }) : wpAny (model prog w) A (getItem (.ref t) (.ref sl)) Q E s := by
  have few : sizeOk (.seq (xs.drop 1).reverse.toArray) := by
    show (xs.drop 1).reverse.toArray.size ≤ sizeLine
    rw [List.size_toArray, List.length_reverse, List.length_drop]
    exact Nat.le_trans (show xs.length - 1 ≤ 4 by omega) (by decide)
  obtain ⟨ob, ho, hc, hd⟩ := id hs
  have isS : s.TypeIs (.ref sl) "slice" := ⟨ob, ho, hc⟩
  unfold getItem
  try with_reducible refine wpAny_holding ?_
  first | refine wpAny_bind (wpAny_pure ?_) | skip
  refine wpAny_bind (wpAny_sequenceKey ht.typeIs (by decide) ?_)
  refine wpAny_bind (wpAny_callSpecial?_slot (name := Str.ofString "__getitem__") ht.typeIs PyProof.Rows.slot_tuple_getitem
    (wpAny_call_entry PyProof.Rows.slot_tuple_getitem ht.typeIs entry_tuple_getitem ?_ (args_tuple_getitem _ _)))
  show wpAny _ _ (Builtin.Tuple.tupleItemsOf (.ref t) >>= _) _ _ s
  refine wpAny_bind (tupleItemsOf_ ht ?_)
  refine wpAny_bind (wpAny_typeOf isS ?_)
  rw [if_pos (by decide)]
  have sz : xs.toArray.size = xs.length := List.size_toArray ..
  refine wpAny_bind (back0_applied (n := xs.toArray.size) (by rw [sz]; exact h2) hs pl pu ps ?_)
  rw [sz]
  have no : ¬ ((((xs.length : Int) - 1) == 0 && (-1 : Int) == 1 && (xs.length - 1) == xs.length) = true) := by simp
  show wpAny _ _ (if (((xs.length : Int) - 1) == 0 && (-1 : Int) == 1 && (xs.length - 1) == xs.length) = true then _ else _) _ _ s
  rw [if_neg no, back0_pick h2 h4]
  first
    | exact wpAny_bind (m := Builtin.Tuple.tupleExact _) (wpAny_newObj_type (wpAny_pure ⟨_, rfl, wpAny_pure h⟩) few)
    | exact wpAny_bind (m := Builtin.Tuple.tupleExact _) (wpAny_newObj_type (wpAny_bind (wpAny_pure (wpAny_pure ⟨_, rfl, wpAny_pure h⟩))) few)
    | exact wpAny_bind (wpAny_bind (m := Builtin.Tuple.tupleExact _) (wpAny_newObj_type (wpAny_pure (wpAny_pure ⟨_, rfl, wpAny_pure h⟩)) few))
    | exact wpAny_bind (wpAny_bind (m := Builtin.Tuple.tupleExact _) (wpAny_newObj_type (wpAny_pure ⟨_, rfl, wpAny_pure h⟩) few))
end
/-- t[:0:-1], t of one to four: what stands behind the first, from the end -/
def tBack0 (K : PySem.W.Frag) (te : TE) : TE := fun σ H Q => te σ H fun x H1 => ∃ a xs, x = .ref a ∧ SqT K H1 a xs ∧ 1 ≤ xs.length ∧ xs.length ≤ 4 ∧ ∀ p, H1 p = none → Q (.ref p) (upd H1 p (.tup (xs.drop 1).reverse))
section
variable {X : Cx}
theorem pe_back0 {e : Expr} {te : TE} {k k2 : Nat} {p1 p2 p3 p4 pos : Pos} (he : PE X e te) : PE X (.Subscript e (.Slice none (some (.Constant (.int 0) k2 p4)) (some (.UnaryOp .USub (.Constant (.int 1) k p1) p2)) p3) pos) (tBack0 X.K te) := by
  refine ⟨fun pins s σ H Q I h => ?_⟩
  refine Subscript_ (thn (he.run pins s σ H _ I h) fun v s1 ⟨x, H1, I1, r1, q1⟩ => ?_)
  obtain ⟨a, xs, ex, hx, l2, l4, q⟩ := q1
  subst ex
  cases r1
  have hlo : PO X (some (.Constant (.int 0) k2 p4)) (tPart (tC (.int 0))) := po_some pe_int
  have hst : PO X (some (.UnaryOp .USub (.Constant (.int 1) k p1) p2)) (tPart (tUn (rU fun i => .int (-i)) (tC (.int 1)))) := po_some (pe_un un_neg pe_int)
  refine wpAny_Slice (thn (po_none.run pins s1 σ H1 (fun o G => o = none ∧ G = H1) I1 ⟨rfl, rfl⟩) fun vl s2 ⟨l, H2, I2, pl, el, e2⟩ => ?_)
  subst el e2
  refine thn (hlo.run pins s2 σ H2 (fun o G => o = some 0 ∧ G = H2) I2 ⟨0, rfl, rfl, rfl⟩) fun vu s3 ⟨u, H3, I3, pu, eu, e3⟩ => ?_
  subst eu e3
  refine thn (hst.run pins s3 σ H3 (fun o G => o = some (-1) ∧ G = H3) I3 ⟨1, rfl, -1, rfl, rfl, rfl⟩) fun vs s4 ⟨o, H4, I4, ps, eo, e4⟩ => ?_
  subst eo e4
  have I5 : Inv X pins σ H4 { s4 with heap := s4.heap.push { cls := .type "slice", data := .fields #[vl, vu, vs] } } := I4.kept (t' := s4.toks) fun b ob q => Heap.get?_push_of_some _ q
  obtain ⟨its, r, ht, hz⟩ := I5.tuple hx
  have hlen := r.length
  show wpAny (model X.prog X.w) X.A (subscriptTail e (.Slice none (some (.Constant (.int 0) k2 p4)) (some (.UnaryOp .USub (.Constant (.int 1) k p1) p2)) p3) (.ref a) (.ref s4.heap.objs.size)) (EP X pins σ Q) X.xe { s4 with heap := s4.heap.push { cls := .type "slice", data := .fields #[vl, vu, vs] } }
  refine tail_any (ops := [.ref a, .ref s4.heap.objs.size]) ht.typeIs (PyProof.Rows.slot_tuple_getitem.lookup) ?_ (by with_unfolding_all rfl)
  refine getItem_back0 ht (by omega) (by omega) (Heap.IsSliceOf.new _ vl vu vs) pl pu ps ?_
  refine ⟨.ref _, _, I5.laid (t' := s4.toks) (o := .tup (xs.drop 1).reverse) (fun b ob q => Heap.get?_push_of_some _ q) (Nat.le_refl _) ?_, rfl, q _ (I5.hok.fresh (Nat.le_refl _))⟩
  exact ⟨by rw [List.length_reverse, List.length_drop]; omega, _, (r.drop 1).reverse, IsTup.new _ _⟩
end
end Kx
/-! preorder. -/
namespace K03
open PySem PySem.Spec PyProof.Rows L2 Kx
theorem dxr {K : PySem.W.Frag} {H : Hp} : ∀ {vs : List V} {ds : List PyData}, DxAll K H vs ds → DxAll K H vs.reverse ds.reverse
  | _, _, .nil => .nil
  | _, _, .cons a t => by
    rw [List.reverse_cons, List.reverse_cons]
    exact DxAll.append (dxr t) (.cons a .nil)
theorem pre_pos {d : PyData} : 0 < (preD d).length := by
  cases d with
  | tuple ds => cases ds <;> simp [preD]
  | _ => simp [preD]
theorem len_pre : ∀ l : List PyData, l.length ≤ (preAll l).length
  | [] => Nat.le_refl _
  | d :: l => by
    have := len_pre l
    have := pre_pos (d := d)
    rw [preAll, List.length_append, List.length_cons]
    omega
theorem big5 {n : Nat} (h : n ≤ 200000) : n < sizeLine := Nat.lt_of_le_of_lt h (by decide)
section
variable {P : Program} {w : World} {K : PySem.W.Frag} {mg : Str → Option Value} {base : Heap}
def spPre (K : PySem.W.Frag) : Sp := fun vs H Q _ => ∃ (a : Addr) (ws : List V) (st : List PyData) (H0 : Hp), vs = [.ref a] ∧ SqL K H a ws ∧ Same H0 H ∧ DxAll K H0 ws st ∧ formedAll st = true ∧ (preAll st).length ≤ 100000 ∧
  ∀ p H' us, Same H H' → H p = none → H' p = some (.lst us) → DxAll K H0 us (preAll st) → Q (.ref p) H'
theorem ok_pre (T : Tx K mg) : FnOk P w K mg base CX0 1 T.apreorder T.dpreorder ["terms"] (spPre K) := by
  have nd := sc_preorder.nd
  refine T.fpreorder.ok sc_preorder (fun vs H Q E h => ?_) (fun cdv A outer s H vs Q E hr h => ?_)
  · obtain ⟨a, ws, st, H0, rfl, _⟩ := h
    rfl
  · obtain ⟨a, ws, st0, H0, rfl, ha, s0, hx, hf, bd, q⟩ := h
    refine ⟨_, (pss_cons (ps_set (i := 1) nd rfl (.inl rfl) (pe_lst pa_nil))
      (pss_cons (ps_set (i := 2) nd rfl (.inl rfl) (pe_callTy call_list_of (by rfl) T.b_list (by decide +kernel) (pa_cons (pe_revL (pv 0)) pa_nil)))
      (pss_cons (ps_while PassesOwn.never (pt_truth (pv 2) (by intro _; rfl)) (pss_cons (ps_set (i := 3) nd rfl (.inl rfl) (pe_bm0 PySem.F.plainAttrs_list PySem.F.slot_list_pop PySem.F.type_list_pop mt_pop (pv 2)))
      (pss_cons (ps_expr (pe_bm PySem.F.plainAttrs_list PySem.F.slot_list_append PySem.F.type_list_append mt_append (pv 1) (pa_cons (pv 3) pa_nil)))
      (pss_one (ps_expr (pe_bm PySem.F.plainAttrs_list PySem.F.slot_list_extend PySem.F.type_list_extend mt_extT (pv 2) (pa_cons (pe_back0 (pv 3)) pa_nil)))))))
      (pss_one (ps_ret (pv 1)))))), ?_⟩
    refine ⟨Nat.zero_le _, fun f nf => ?_⟩
    have s1 := same_put (o := .lst []) nf
    refine ⟨_, rfl, a, ws, rfl, s1.seq ha, fun r nr => ⟨r, _, rfl, .inl (.inl (.inl upd_same)), fun wl nwl => ?_⟩⟩
    have s2 := s1.trans (same_put (o := .lst ws.reverse) nr)
    have nfr : f ≠ r := ne_of_none upd_same nr
    have ef2 : (upd (upd H f (.lst [])) r (.lst ws.reverse)) f = some (.lst []) := by rw [upd_ne nfr, upd_same]
    generalize upd (upd H f (.lst [])) r (.lst ws.reverse) = H2 at s2 ef2 nwl ⊢
    have s3 := s2.trans (same_put (o := .lst ws.reverse) nwl)
    have nfw : f ≠ wl := ne_of_none ef2 nwl
    have nwl0 : H wl = none := s2.free nwl
    refine ⟨fun m σ H3 => (∃ y3, σ = [some (.ref a), some (.ref f), some (.ref wl), y3]) ∧ ∃ (us vs : List V) (done st : List PyData), m = (preAll st).length ∧ H3 f = some (.lst us) ∧ H3 wl = some (.lst vs) ∧ Same H H3 ∧ DxAll K H0 us done ∧ DxAll K H0 vs st.reverse ∧ formedAll st = true ∧ done ++ preAll st = preAll st0,
      ⟨_, ⟨none, rfl⟩, [], ws.reverse, [], st0, rfl, by rw [upd_ne nfw]; exact ef2, upd_same, s3, .nil, dxr hx, hf, rfl⟩, ?_⟩
    rintro m σ H3 ⟨⟨y3, rfl⟩, us, vs, done, st, rfl, ef, ew, sm, du, dv, fo, tot⟩
    have lt := congrArg List.length tot
    rw [List.length_append] at lt
    have ld := du.length
    refine ⟨_, rfl, _, .inl ⟨vs, .inl (.inl ew), rfl⟩, ?_⟩
    cases st with
    | nil =>
      cases dv
      refine iteF ⟨_, rfl, q f _ us sm nf ef ?_⟩
      have e : done = preAll st0 := by rw [← tot]; simp [preAll]
      rw [← e]
      exact du
    | cons d st =>
      rw [List.reverse_cons] at dv
      obtain ⟨vs, v, rfl, dv', hv⟩ := snocDx dv
      have ne : (!(vs ++ [v]).isEmpty) = true := by cases vs <;> rfl
      rw [ne]
      rw [formedAll, Bool.and_eq_true] at fo
      have ep := preD_eq fo.1
      have lv := dv'.length
      rw [List.length_reverse] at lv
      have lst := len_pre st
      have lall : (preAll (d :: st)).length = 1 + ((preAll (kidsD d)).length + (preAll st).length) := by
        rw [preAll, ep, List.length_append, List.length_cons]
        omega
      rw [lall] at lt ⊢
      refine iteT ⟨fun σ' H' => ∃ m', m' < 1 + ((preAll (kidsD d)).length + (preAll st).length) ∧ _, fun _ _ h => h, ?_⟩
      refine ⟨_, rfl, .inl ⟨rfl, _, .inl (.inl ew)⟩, wl, _, v, rfl, rfl, ew, by simp, ?_⟩
      rw [List.dropLast_concat]
      have sm4 : Same H (upd H3 wl (.lst vs)) := fun c o hc => by
        rw [upd_ne (ne_of_none hc nwl0)]
        exact sm c o hc
      have ef4 : (upd H3 wl (.lst vs)) f = some (.lst us) := by
        rw [upd_ne nfw]
        exact ef
      have ew4 : (upd H3 wl (.lst vs)) wl = some (.lst vs) := upd_same
      generalize upd H3 wl (.lst vs) = H4 at sm4 ef4 ew4 ⊢
      refine ⟨_, rfl, .inl ⟨rfl, _, .inl (.inl ef4)⟩, _, rfl, f, us, v, rfl, rfl, ef4, big5 (by omega), ?_⟩
      have sm5 : Same H (upd H4 f (.lst (us ++ [v]))) := fun c o hc => by
        rw [upd_ne (ne_of_none hc nf)]
        exact sm4 c o hc
      have ef5 : (upd H4 f (.lst (us ++ [v]))) f = some (.lst (us ++ [v])) := upd_same
      have ew5 : (upd H4 f (.lst (us ++ [v]))) wl = some (.lst vs) := by
        rw [upd_ne nfw.symm]
        exact ew4
      generalize upd H4 f (.lst (us ++ [v])) = H5 at sm5 ef5 ew5 ⊢
      obtain ⟨nm, es, rfl, l3, hnm, hfa⟩ := formed_shape fo.1
      have hv' := hv
      cases hv' with
      | @tup b xs _ hb hs =>
      cases hs with
      | @cons v0 vr _ _ h0 hws =>
      cases h0
      have lw := hws.length
      refine ⟨_, rfl, .inl ⟨rfl, _, .inl (.inl ew5)⟩, _, rfl, b, _, rfl, SqT.of (sm5 _ _ (s0 _ _ hb)), by rw [List.length_cons]; omega, by rw [List.length_cons]; omega, fun c nc => ?_⟩
      have nwc : wl ≠ c := ne_of_none ew5 nc
      have nfc : f ≠ c := ne_of_none ef5 nc
      refine ⟨wl, c, vs, vr.reverse, rfl, rfl, by rw [upd_ne nwc]; exact ew5, SqT.of upd_same, ?_, ?_⟩
      · rw [List.length_reverse]
        exact Nat.le_of_lt (big5 (by omega))
      · refine ⟨(preAll (kidsD (.tuple (.str nm :: es)) ++ st)).length, by rw [preAll_app, List.length_append]; omega, ⟨_, rfl⟩, _, vs ++ vr.reverse, done ++ [.tuple (.str nm :: es)], es ++ st, rfl, ?_, upd_same, fun d o hd => ?_, DxAll.append du (.cons hv .nil), ?_, ?_, ?_⟩
        · rw [upd_ne nfw, upd_ne nfc]
          exact ef5
        · rw [upd_ne (ne_of_none hd nwl0), upd_ne]
          · exact sm5 d o hd
          · rintro rfl
            rw [sm5 _ _ hd] at nc
            cases nc
        · rw [List.reverse_append]
          exact DxAll.append dv' (dxr hws)
        · rw [formedAll_append, hfa, fo.2]
          rfl
        · rw [← tot, preAll_app, preAll, ep, List.append_assoc]
          rfl
end
end K03
/-! d.setdefault(t, z), t a tuple of texts and ints. -/
namespace Kx
open PySem PySem.Spec PyProof.Rows L2
section
variable {X : Cx} {pins : List (Addr × Obj)} {σ : L2.St} {H : Hp} {s : Shared} {a b : Addr} {r : Value} {d : V} {k : List Key} {A : Around} {E : Value → Shared → Prop}
theorem d_setdT {kvs : List (List Key × V)} {Q : Value → Shared → Prop} (hu : A.units + 1 < cLine) (I : Inv X pins σ H s) (e : H a = some (.dT kvs)) (eb : H b = some (.tup (k.map kV))) (rd : RelV d r) (hl : kvs.length < sizeLine)
    (h1 : ∀ v, valV kvs k = some v → ∀ (w' : Value) (s' : Shared), Inv X pins σ H s' → RelV v w' → Q w' s') (h2 : valV kvs k = none → ∀ (w' : Value) (s' : Shared), Inv X pins σ (upd H a (.dT (putK kvs k d))) s' → RelV d w' → Q w' s') :
    wpAny (model X.prog X.w) A (call (.builtin "dict.setdefault") [.ref a, .ref b, r]) Q E s := by
  obtain ⟨z, hd, xs, rel, dd⟩ := dt_of I.hok e
  have hz : xs.length ≤ sizeLine := by rw [← Paired.length rel]; exact z
  have q := rel.val k
  refine call_setdefault_heap (hsz := hz) (tupleKind_room_in1 hu) (key_of I.hok eb) hd dd (fun p hp => ?_) fun hn h' dd' hs => ?_
  · rw [hp] at q
    cases q0 : valV kvs k with
    | none =>
      rw [q0] at q
      exact (show False from q).elim
    | some v0 =>
      rw [q0] at q
      exact h1 v0 q0 _ _ (I.tok _) q
  · rw [hn] at q
    cases q0 : valV kvs k with
    | some v0 =>
      rw [q0] at q
      exact (show False from q).elim
    | none =>
      have hl2 : (putK kvs k d).length ≤ sizeLine := by
        have := length_putK kvs k d
        omega
      refine h2 q0 _ _ ?_ rd
      obtain ⟨ob, es, ep, hq, g2, g3, g4, _, g5⟩ := dd'
      refine d_write I (by rw [e]; exact True.intro) hs ⟨ob, hq⟩ ⟨hl2, hd, _, (rel.put k eb rd).keeps fun c ys ec => ?_, ob, es, ep, hq, g2, g3, g4, g5⟩
      rw [upd_ne (ne_of ec e (fun z => nomatch z))]
      exact ec
end
/-- d.setdefault(y, z), y a tuple -/
def tDSetT (td ty tx : TE) : TE := fun σ H Q => td σ H fun x H1 => ∃ a, x = .ref a ∧ IsD H1 a ∧ ty σ H1 fun y H2 => tx σ H2 fun z H3 => ∃ (kvs : List (List Key × V)) (k : List Key) (b : Addr), H3 a = some (.dT kvs) ∧ y = .ref b ∧ H3 b = some (.tup (k.map kV)) ∧ kvs.length < sizeLine ∧
  (∀ v, valV kvs k = some v → Q v H3) ∧ (valV kvs k = none → Q z (upd H3 a (.dT (putK kvs k z))))
section
variable {X : Cx} {o e f : Expr} {td ty tx : TE} {apos cpos : Pos}
theorem pe_dsetT (hu : X.A.units + 1 < cLine) (ho : PE X o td) (he : PE X e ty) (hf : PE X f tx) (m : M2 X o "setdefault" apos e f cpos) : PE X (.Call (.Attribute o "setdefault" apos) [e, f] [] cpos) (tDSetT td ty tx) := by
  refine ⟨fun pins s σ H Q I h => ?_⟩
  refine wpAny_Call_method m.base m.few m.line PySem.F.plainAttrs_dict PySem.F.slot_dict_setdefault PySem.F.type_dict_setdefault (thn (ho.run pins s σ H _ I h) fun u s1 ⟨x, H1, I1, rx, a, ex, d, q1⟩ => ?_)
  subst ex
  obtain rfl : u = Value.ref a := rx
  obtain ⟨t1, t2, _⟩ := isD_at I1 d
  refine ⟨t1, t2, ?_⟩
  rw [m.trees]
  refine Calls.callWith_builtin rfl (Calls.evalArgs_plain (Calls.spliced_cons (thn (he.run pins s1 σ H1 _ I1 q1) fun iv s2 ⟨y, H2, I2, ry, q2⟩ =>
    Calls.spliced_cons (thn (hf.run pins s2 σ H2 _ I2 q2) fun fv s3 ⟨z, H3, I3, rz, kvs, k, b, ea, ey, eb, hl, q3, q4⟩ => Calls.spliced_nil ?_))))
  subst ey
  obtain rfl : iv = Value.ref b := ry
  exact d_setdT hu I3 ea eb rz hl (fun v hv w' s4 I4 rw' => ⟨v, _, I4, rw', q3 v hv⟩) fun hn w' s4 I4 rw' => ⟨z, _, I4, rw', q4 hn⟩
end
end Kx
/-! Numbers for terms. -/
namespace K03
open PySem PySem.Spec PyProof.Rows L2 Kx
/-- is are places of ds among ts -/
def AtAll (ts : List PyData) : List Nat → List PyData → Prop
  | [], [] => True
  | i :: is, e :: es => ts[i]? = some e ∧ AtAll ts is es
  | _, _ => False
theorem AtAll.len {ts : List PyData} : ∀ {is : List Nat} {es : List PyData}, AtAll ts is es → is.length = es.length
  | [], [], _ => rfl
  | _ :: _, _ :: _, h => by rw [List.length_cons, List.length_cons, AtAll.len h.2]
  | [], _ :: _, h => h.elim
  | _ :: _, [], h => h.elim
theorem AtAll.app {ts : List PyData} : ∀ {is : List Nat} {es : List PyData} {js : List Nat} {fs : List PyData}, AtAll ts is es → AtAll ts js fs → AtAll ts (is ++ js) (es ++ fs)
  | [], [], _, _, _, g => g
  | _ :: _, _ :: _, _, _, h, g => ⟨h.1, AtAll.app h.2 g⟩
  | [], _ :: _, _, _, h, _ => h.elim
  | _ :: _, [], _, _, h, _ => h.elim
theorem AtAll.grow {ts : List PyData} (us : List PyData) : ∀ {is : List Nat} {es : List PyData}, AtAll ts is es → AtAll (ts ++ us) is es
  | [], [], _ => True.intro
  | i :: _, _ :: _, h => ⟨by rw [List.getElem?_append_left (List.getElem?_eq_some_iff.mp h.1).1]; exact h.1, AtAll.grow us h.2⟩
  | [], _ :: _, h => h.elim
  | _ :: _, [], h => h.elim
theorem AtAll.rev {ts : List PyData} : ∀ {is : List Nat} {es : List PyData}, AtAll ts is es → AtAll ts is.reverse es.reverse
  | [], [], _ => True.intro
  | i :: is, e :: es, h => by
    rw [List.reverse_cons, List.reverse_cons]
    exact AtAll.app (AtAll.rev h.2) ⟨h.1, True.intro⟩
  | [], _ :: _, h => h.elim
  | _ :: _, [], h => h.elim
theorem AtAll.same {ts : List PyData} : ∀ {is : List Nat} {es fs : List PyData}, AtAll ts is es → AtAll ts is fs → es = fs
  | [], [], [], _, _ => rfl
  | _ :: _, e :: es, f :: fs, h, g => by
    have e1 := Option.some.inj (h.1.symm.trans g.1)
    rw [e1, AtAll.same h.2 g.2]
  | [], _ :: _, _, h, _ => h.elim
  | _ :: _, [], _, h, _ => h.elim
  | [], [], _ :: _, _, g => g.elim
  | _ :: _, _ :: _, [], _, g => g.elim
theorem at_uniq {ts : List PyData} (nd : ts.Nodup) {i j : Nat} {t : PyData} (h : ts[i]? = some t) (g : ts[j]? = some t) : i = j := by
  obtain ⟨hi, e1⟩ := List.getElem?_eq_some_iff.mp h
  obtain ⟨hj, e2⟩ := List.getElem?_eq_some_iff.mp g
  exact (List.getElem_inj nd).mp (e1.trans e2.symm)
theorem AtAll.uniq {ts : List PyData} (nd : ts.Nodup) : ∀ {is js : List Nat} {es : List PyData}, AtAll ts is es → AtAll ts js es → is = js
  | [], [], [], _, _ => rfl
  | i :: is, j :: js, e :: es, h, g => by rw [at_uniq nd h.1 g.1, AtAll.uniq nd h.2 g.2]
  | [], _, _ :: _, h, _ => h.elim
  | _ :: _, _, [], h, _ => h.elim
  | _ :: _, [], _ :: _, _, g => g.elim
  | [], _ :: _, [], _, g => g.elim
/-- the last items of a list of places -/
theorem AtAll.split {ts : List PyData} : ∀ {es : List PyData} {is : List Nat} {fs : List PyData}, AtAll ts is (es ++ fs) → ∃ a b, is = a ++ b ∧ AtAll ts a es ∧ AtAll ts b fs
  | [], is, fs, h => ⟨[], is, rfl, True.intro, h⟩
  | e :: es, i :: is, fs, h => by
    obtain ⟨a, b, rfl, h1, h2⟩ := AtAll.split (es := es) h.2
    exact ⟨i :: a, b, rfl, ⟨h.1, h1⟩, h2⟩
  | _ :: _, [], _, h => h.elim
def numV (is : List Nat) : List V := is.map fun (n : Nat) => V.int (n : Int)
def numK (is : List Nat) : List Key := is.map fun (n : Nat) => (Sum.inl (n : Int) : Key)
def KeyOf (ts : List PyData) (key : List Key) (t : PyData) : Prop := ∃ (x : Str) (es : List PyData) (is : List Nat), t = .tuple (.str x :: es) ∧ key = Sum.inr x :: numK is ∧ AtAll ts is es
/-- the table of the terms ts -/
structure Tab (ts : List PyData) (kvs : List (List Key × V)) : Prop where
  len : kvs.length = ts.length
  nodup : ts.Nodup
  row : ∀ (i : Nat) t, ts[i]? = some t → ∃ key, kvs[i]? = some (key, V.int (i : Int)) ∧ KeyOf ts key t
theorem vals_some {k : List Key} {v : V} : ∀ {kvs : List (List Key × V)}, valV kvs k = some v → ∃ i : Nat, kvs[i]? = some (k, v)
  | [], h => by cases h
  | p :: r, h => by
    by_cases e : p.1 = k
    · rw [valV_pos e] at h
      refine ⟨0, ?_⟩
      rw [← e, ← Option.some.inj h]
      rfl
    · rw [valV_neg e] at h
      obtain ⟨i, hi⟩ := vals_some h
      exact ⟨i + 1, by simpa using hi⟩
theorem vals_none {k : List Key} : ∀ {kvs : List (List Key × V)}, valV kvs k = none → ∀ (i : Nat) (v : V), kvs[i]? ≠ some (k, v)
  | [], _, i, v => by simp
  | p :: r, h, i, v => by
    by_cases e : p.1 = k
    · rw [valV_pos e] at h
      cases h
    · rw [valV_neg e] at h
      intro z
      cases i with
      | zero =>
        rw [List.getElem?_cons_zero] at z
        exact e (by rw [Option.some.inj z])
      | succ i => exact vals_none h i v (by simpa using z)
theorem inl_inj : ∀ {is js : List Nat}, numK is = numK js → is = js
  | [], [], _ => rfl
  | [], _ :: _, h => by cases h
  | _ :: _, [], h => by cases h
  | i :: is, j :: js, h => by
    rw [show numK (i :: is) = Sum.inl (i : Int) :: numK is from rfl, show numK (j :: js) = Sum.inl (j : Int) :: numK js from rfl, List.cons.injEq] at h
    have e := Sum.inl.inj h.1
    rw [inl_inj h.2, show i = j by omega]
theorem KeyOf.same {ts : List PyData} {key : List Key} {t u : PyData} (h : KeyOf ts key t) (g : KeyOf ts key u) : t = u := by
  obtain ⟨x, es, is, rfl, e1, a1⟩ := h
  obtain ⟨y, fs, js, rfl, e2, a2⟩ := g
  rw [e1, List.cons.injEq] at e2
  have ex := Sum.inr.inj e2.1
  have ei := inl_inj e2.2
  subst ex ei
  rw [a1.same a2]
theorem KeyOf.uniq {ts : List PyData} (nd : ts.Nodup) {key kay : List Key} {t : PyData} (h : KeyOf ts key t) (g : KeyOf ts kay t) : key = kay := by
  obtain ⟨x, es, is, rfl, rfl, a1⟩ := h
  obtain ⟨y, fs, js, e, rfl, a2⟩ := g
  rw [PyData.tuple.injEq, List.cons.injEq, PyData.str.injEq] at e
  obtain ⟨ex, ef⟩ := e
  subst ex ef
  rw [a1.uniq nd a2]
theorem KeyOf.grow {ts : List PyData} {key : List Key} {t : PyData} (us : List PyData) (h : KeyOf ts key t) : KeyOf (ts ++ us) key t := by
  obtain ⟨x, es, is, e1, e2, a⟩ := h
  exact ⟨x, es, is, e1, e2, a.grow us⟩
theorem Tab.hit {ts : List PyData} {kvs : List (List Key × V)} {key : List Key} {t : PyData} {v : V} (T : Tab ts kvs) (k : KeyOf ts key t) (h : valV kvs key = some v) : ∃ i : Nat, v = .int (i : Int) ∧ ts[i]? = some t := by
  obtain ⟨i, hi⟩ := vals_some h
  have lt : i < ts.length := by
    rw [← T.len]
    exact (List.getElem?_eq_some_iff.mp hi).1
  obtain ⟨kay, e1, e2⟩ := T.row i _ (List.getElem?_eq_getElem lt)
  rw [hi, Option.some.injEq, Prod.mk.injEq] at e1
  obtain ⟨e1, e3⟩ := e1
  subst e1
  refine ⟨i, e3, ?_⟩
  rw [List.getElem?_eq_getElem lt, e2.same k]
theorem Tab.miss {ts : List PyData} {kvs : List (List Key × V)} {key : List Key} {t : PyData} (T : Tab ts kvs) (k : KeyOf ts key t) (h : valV kvs key = none) : Tab (ts ++ [t]) (kvs ++ [(key, .int (ts.length : Int))]) := by
  have no : t ∉ ts := fun z => by
    obtain ⟨i, hi⟩ := List.mem_iff_getElem?.mp z
    obtain ⟨kay, e1, e2⟩ := T.row i t hi
    rw [KeyOf.uniq T.nodup e2 k] at e1
    exact vals_none h i _ e1
  refine ⟨by rw [List.length_append, List.length_append, T.len]; rfl, ?_, fun i u hi => ?_⟩
  · rw [List.nodup_append]
    refine ⟨T.nodup, by simp, fun a ha b hb => ?_⟩
    rw [List.mem_singleton.mp hb]
    rintro rfl
    exact no ha
  · by_cases lt : i < ts.length
    · rw [List.getElem?_append_left lt] at hi
      obtain ⟨kay, e1, e2⟩ := T.row i u hi
      exact ⟨kay, by rw [List.getElem?_append_left (by rw [T.len]; exact lt)]; exact e1, e2.grow _⟩
    · rw [List.getElem?_append_right (Nat.le_of_not_lt lt)] at hi
      have e0 : i - ts.length = 0 := by
        have := (List.getElem?_eq_some_iff.mp hi).1
        simp at this
        omega
      rw [e0] at hi
      simp at hi
      subst hi
      have ei : i = ts.length := by omega
      subst ei
      exact ⟨key, by rw [← T.len, List.getElem?_append_right (Nat.le_refl _), Nat.sub_self]; rfl, k.grow _⟩
theorem keyV (x : Str) (is : List Nat) : ((Sum.inr x :: numK is) : List Key).map kV = V.str x :: numV is := by
  rw [List.map_cons, numK, List.map_map]
  rfl
end K03
/-! Slices and sums of tuples as data. -/
namespace Kx
open PySem PySem.Spec PyProof.Rows L2
theorem offs_nil {H : Hp} : Same H (OffS [] H) := fun b o h => OffS.out (fun z => nomatch z) h
theorem olds_nil {H : Hp} : Olds [] H := fun b z => nomatch z
section
variable {K : PySem.W.Frag} {S : List Addr} {H : Hp} {x y : V} {ds es : List PyData} {Q : VK}
theorem sl_upto {i : Nat} (hx : Dx K (OffS S H) x (.tuple ds)) (o : Olds S H) (q : ∀ y H', Same H H' → Dx K (OffS S H') y (.tuple (ds.take i)) → Q y H') : rSlA K x none (some (i : Int)) H Q := by
  cases hx with
  | @tup a xs _ ha hs =>
  refine ⟨a, xs, rfl, SqT.of (OffS.all _ _ ha), fun z => ?_, fun _ p np => ?_⟩
  · have e : min i xs.length = xs.length := by
      have := z.2
      rwa [show HT.sIx xs.length xs.length (some (i : Int)) = min i xs.length from HT.sIx_nat xs.length xs.length i] at this
    refine q _ _ (Same.refl H) ?_
    rw [List.take_of_length_le (by rw [← hs.length]; omega)]
    exact .tup ha hs
  · have e : cutV xs none (some (i : Int)) = xs.take i := by
      unfold cutV
      rw [show HT.sIx xs.length xs.length (some (i : Int)) = min i xs.length from HT.sIx_nat xs.length xs.length i, show HT.sIx xs.length 0 none = 0 from rfl, List.drop_zero, Nat.sub_zero]
      by_cases e : i ≤ xs.length
      · rw [Nat.min_eq_left e]
      · rw [Nat.min_eq_right (by omega), List.take_length, List.take_of_length_le (by omega)]
    rw [e]
    exact q _ _ (same_put np) (.tup (OffS.out (o.new np) upd_same) ((hs.take i).up (OffS.same (same_put np))))
theorem sl_from {i : Nat} (hx : Dx K (OffS S H) x (.tuple ds)) (o : Olds S H) (q : ∀ y H', Same H H' → Dx K (OffS S H') y (.tuple (ds.drop i)) → Q y H') : rSlA K x (some (i : Int)) none H Q := by
  cases hx with
  | @tup a xs _ ha hs =>
  refine ⟨a, xs, rfl, SqT.of (OffS.all _ _ ha), fun z => ?_, fun _ p np => ?_⟩
  · have e : min i xs.length = 0 := by
      have := z.1
      rwa [show HT.sIx xs.length 0 (some (i : Int)) = min i xs.length from HT.sIx_nat xs.length 0 i] at this
    refine q _ _ (Same.refl H) ?_
    by_cases h : i = 0
    · rw [h, List.drop_zero]
      exact .tup ha hs
    · have : ds = [] := List.eq_nil_of_length_eq_zero (by rw [← hs.length]; omega)
      rw [this] at hs ⊢
      rw [List.drop_nil]
      exact .tup ha hs
  · have e : cutV xs (some (i : Int)) none = xs.drop i := by
      unfold cutV
      rw [show HT.sIx xs.length 0 (some (i : Int)) = min i xs.length from HT.sIx_nat xs.length 0 i, HT.sIx_none]
      by_cases e : i ≤ xs.length
      · rw [Nat.min_eq_left e, List.take_of_length_le (by rw [List.length_drop]; omega)]
      · rw [Nat.min_eq_right (by omega), Nat.sub_self, List.take_zero, List.drop_eq_nil_of_le (by omega)]
    rw [e]
    exact q _ _ (same_put np) (.tup (OffS.out (o.new np) upd_same) ((hs.drop i).up (OffS.same (same_put np))))
theorem cat_tups (hx : Dx K (OffS S H) x (.tuple ds)) (hy : Dx K (OffS S H) y (.tuple es)) (o : Olds S H) (few : ds.length + es.length ≤ sizeLine) (q : ∀ z H', Same H H' → Dx K (OffS S H') z (.tuple (ds ++ es)) → Q z H') : rCatA K x y H Q := by
  cases hx with
  | @tup a xs _ ha hs =>
  cases hy with
  | @tup b ys _ hb ht =>
  refine ⟨a, b, xs, ys, rfl, rfl, SqT.of (OffS.all _ _ ha), SqT.of (OffS.all _ _ hb), by rw [hs.length, ht.length]; exact few, fun e => ?_, fun _ e => ?_, fun _ _ p np => ?_⟩
  · subst e
    cases hs
    exact q _ _ (Same.refl H) (.tup hb ht)
  · subst e
    cases ht
    rw [List.append_nil] at q
    exact q _ _ (Same.refl H) (.tup ha hs)
  · exact q _ _ (same_put np) (.tup (OffS.out (o.new np) upd_same) (DxAll.append (hs.up (OffS.same (same_put np))) (ht.up (OffS.same (same_put np)))))
end
end Kx
/-! All but some addresses stay. -/
namespace Kx
open PySem PySem.Spec PyProof.Rows L2
def ButL (S : List Addr) (H H' : Hp) : Prop := ∀ b o, H b = some o → b ∉ S → H' b = some o
section
variable {S S' : List Addr} {H H0 G G' : Hp} {b p : Addr} {o u : HO}
theorem ButL.refl : ButL S H H := fun _ _ h _ => h
theorem ButL.of (s : Same H G) : ButL S H G := fun b o h _ => s b o h
theorem ButL.trans (x : ButL S H G) (y : ButL S G G') : ButL S H G' := fun b o h n => y b o (x b o h n) n
theorem ButL.at (x : ButL S H G) (e : H b = some o) (n : b ∉ S) : G b = some o := x b o e n
theorem ButL.put (x : ButL S H G) (m : b ∈ S) : ButL S H (upd G b u) := fun c o h n => by
  rw [upd_ne (fun z : c = b => n (by rw [z]; exact m))]
  exact x c o h n
theorem ButL.new (x : ButL S H G) (np : G p = none) : ButL S H (upd G p u) := fun c o h n => by
  rw [upd_ne (ne_of_none (x c o h n) np)]
  exact x c o h n
theorem ButL.same (s : Same H0 H) (n : ∀ b ∈ S, H0 b = none) (x : ButL S H G) : Same H0 G := fun b o h => x b o (s b o h) fun z => by
  rw [n b z] at h
  cases h
theorem ButL.weak (x : ButL S H G) (h : ∀ b ∈ S, b ∈ S') : ButL S' H G := fun b o e n => x b o e fun z => n (h b z)
end
end Kx
namespace Kx
open PySem PySem.Spec PyProof.Rows L2
section
variable {S S' : List Addr} {H G : Hp}
theorem offs_but (x : ButL S' H G) (n : ∀ b, b ∈ S' → b ∉ S → H b = none) : Same (OffS S H) (OffS S G) := fun b o h => by
  obtain ⟨m, h⟩ := OffS.of h
  refine OffS.out m (x b o h fun z => ?_)
  rw [n b z m] at h
  cases h
theorem same_offs (s : Same H G) (n : ∀ b, b ∈ S → H b = none) : Same H (OffS S G) := fun b o h => OffS.out (fun z => by
  rw [n b z] at h
  cases h) (s b o h)
end
end Kx
/-! numbered_rows, numbered. -/
namespace K03
open PySem PySem.Spec PyProof.Rows L2 Kx
theorem isKeys_up {H H' : Hp} {kvs : List (List Key × V)} {bs : List Addr} (s : Same H H') (h : IsKeys H kvs bs) : IsKeys H' kvs bs := by
  unfold IsKeys at h ⊢
  induction h with
  | nil => exact .nil
  | cons a _ ih => exact .cons (s _ _ a) ih
theorem numV_app (a b : List Nat) : numV (a ++ b) = numV a ++ numV b := List.map_append ..
theorem at_of {α : Type} {l : List α} {k : Nat} (h : k < l.length) : l[k]? = some l[k] := List.getElem?_eq_getElem h
theorem drop_at {α : Type} {l : List α} {j : Nat} {y : α} (h : l[j]? = some y) : l.drop j = y :: l.drop (j + 1) := by
  obtain ⟨lt, e⟩ := List.getElem?_eq_some_iff.mp h
  rw [← e]
  exact (List.getElem_cons_drop lt).symm
theorem rev_at {α : Type} {l : List α} {i : Nat} {y : α} (h : l.reverse[i]? = some y) : i < l.length ∧ l[l.length - 1 - i]? = some y := by
  have lt : i < l.length := by
    have := (List.getElem?_eq_some_iff.mp h).1
    rwa [List.length_reverse] at this
  rw [List.getElem?_reverse lt] at h
  exact ⟨lt, h⟩
section
variable {P : Program} {w : World} {K : PySem.W.Frag} {mg : Str → Option Value} {base : Heap}
def spRows (K : PySem.W.Frag) : Sp := fun vs H Q _ => ∃ (a : Addr) (ws : List V) (st : List PyData), vs = [.ref a] ∧ SqL K H a ws ∧ DxAll K H ws (preAll st) ∧ formedAll st = true ∧ (preAll st).length ≤ 100000 ∧
  ∀ p nl tl H' ts is kvs bs, Same H H' → H' p = some (.tup [.ref nl, .ref tl]) → H' nl = some (.lst (numV is)) → AtAll ts is (preAll st) → Tab ts kvs → H' tl = some (.lst (bs.map V.ref)) → IsKeys H' kvs bs → Q (.ref p) H'
theorem ok_rows (T : Tx K mg) : FnOk P w K mg base CX0 1 T.anumbered_rows T.dnumbered_rows ["parts"] (spRows K) := by
  have nd := sc_numbered_rows.nd
  refine T.fnumbered_rows.ok sc_numbered_rows (fun vs H Q E h => ?_) (fun cdv A outer s H vs Q E hr h => ?_)
  · obtain ⟨a, ws, st, rfl, _⟩ := h
    rfl
  · obtain ⟨a, ws, st0, rfl, ha, hx, hf, bd, q⟩ := h
    have hu := hu_of hr
    refine ⟨_, (pss_cons (ps_set (i := 1) nd rfl (.inl rfl) pe_dnewT)
      (pss_cons (ps_set (i := 2) nd rfl (.inr rfl) (pe_lst pa_nil))
      (pss_cons (ps_set (i := 3) nd rfl (.inl rfl) (pe_lst pa_nil))
      (pss_cons (ps_for PassesOwn.never rfl (pi_list (pe_revL (pv 0))) (pg_name (i := 4) nd rfl (.inl rfl)) (pss_cons (ps_setLc (i := 5) (own := [("_", 7)]) (g := (gName 7)) (tt := tYes) (te := tBM0 K "list" rPop (tVar 2)) (by rfl) nd rfl rfl (sw_true rfl rfl rfl (by decide +kernel)) (pi_tup (pe_slice sl_tupA (pv 4) (po_some pe_int) po_none)) (blkOk_by (own := [("_", 7)]) (N := N_numbered_rows) (sc := defScope s_numbered_rows) (by decide +kernel)) (fun _ _ _ _ _ => pg_name (i := 7) nd rfl (.inl rfl)) (fun _ _ _ _ _ => pts_nil) (fun _ _ _ _ _ => by exact (pe_bm0 PySem.F.plainAttrs_list PySem.F.slot_list_pop PySem.F.type_list_pop mt_pop (pv 2))))
      (C8.pss_cut (ps_set (i := 6) nd rfl (.inl rfl) (pe_dsetT hu (pv 1) (pe_tup (pa_cons (pe_ix ix_tup (pv 4) pe_int (fun _ _ => rfl)) (StX.pa_star (pv 5) pa_nil))) (pe_callB call_len_dT (by rfl) T.b_len (by decide +kernel) (pa_cons (pv 1) pa_nil)) ⟨by rfl, by rfl, by rfl, by rfl⟩))
      (pss_cons (ps_expr (pe_bm PySem.F.plainAttrs_list PySem.F.slot_list_append PySem.F.type_list_append mt_append (pv 2) (pa_cons (pv 6) pa_nil)))
      (pss_one (ps_expr (pe_bm PySem.F.plainAttrs_list PySem.F.slot_list_append PySem.F.type_list_append mt_append (pv 3) (pa_cons (pv 6) pa_nil))))))))
      (pss_one (ps_ret (pe_tup (pa_cons (pe_revL (pv 3)) (pa_cons (pe_callTy (call_list_dT rfl) (by rfl) T.b_list (by decide +kernel) (pa_cons (pv 1) pa_nil)) pa_nil))))))))), ?_⟩
    intro t nt
    have s1 := same_put (o := .dT []) nt
    have et1 : (upd H t (.dT [])) t = some (.dT []) := upd_same
    generalize upd H t (.dT []) = H1 at s1 et1 ⊢
    refine ⟨Nat.zero_le _, fun rd nrd => ?_⟩
    have nrd0 := s1.free nrd
    have ntr : t ≠ rd := ne_of_none et1 nrd
    have s2 := s1.trans (same_put (o := .lst []) nrd)
    have et2 := same_put (o := .lst []) nrd _ _ et1
    have er2 : (upd H1 rd (.lst [])) rd = some (.lst []) := upd_same
    generalize upd H1 rd (.lst []) = H2 at s2 et2 er2 ⊢
    refine ⟨Nat.zero_le _, fun nm nnm => ?_⟩
    have nnm0 := s2.free nnm
    have ntn : t ≠ nm := ne_of_none et2 nnm
    have nrn : rd ≠ nm := ne_of_none er2 nnm
    have s3 := s2.trans (same_put (o := .lst []) nnm)
    have et3 := same_put (o := .lst []) nnm _ _ et2
    have er3 := same_put (o := .lst []) nnm _ _ er2
    have en3 : (upd H2 nm (.lst [])) nm = some (.lst []) := upd_same
    generalize upd H2 nm (.lst []) = H3 at s3 et3 er3 en3 ⊢
    refine ⟨_, rfl, a, ws, rfl, s3.seq ha, fun rp nrp => ?_⟩
    have nrp0 := s3.free nrp
    have ntp : t ≠ rp := ne_of_none et3 nrp
    have nrr : rd ≠ rp := ne_of_none er3 nrp
    have nnp : nm ≠ rp := ne_of_none en3 nrp
    have s4 := s3.trans (same_put (o := .lst ws.reverse) nrp)
    have et4 := same_put (o := .lst ws.reverse) nrp _ _ et3
    have er4 := same_put (o := .lst ws.reverse) nrp _ _ er3
    have en4 := same_put (o := .lst ws.reverse) nrp _ _ en3
    have ep4 : (upd H3 rp (.lst ws.reverse)) rp = some (.lst ws.reverse) := upd_same
    generalize upd H3 rp (.lst ws.reverse) = H4 at s4 et4 er4 en4 ep4 ⊢
    have lw := hx.length
    refine ⟨rp, rfl, ⟨_, .inl (.inl ep4)⟩, for_list (K := K) (a := rp) (xs := ws.reverse) (fun i σ H' => (∃ y4 y5 y6 y7, σ = [some (.ref a), some (.ref t), some (.ref rd), some (.ref nm), y4, y5, y6, y7]) ∧ Same H H' ∧ H' rp = some (.lst ws.reverse) ∧
        ∃ (ts : List PyData) (kvs : List (List Key × V)) (rs ms : List Nat), H' t = some (.dT kvs) ∧ Tab ts kvs ∧ ts.length ≤ i ∧ H' rd = some (.lst (numV rs)) ∧ AtAll ts rs (stk st0 ((preAll st0).length - i)).reverse ∧ H' nm = some (.lst (numV ms)) ∧ AtAll ts ms ((preAll st0).drop ((preAll st0).length - i)).reverse)
      ⟨⟨_, _, _, _, rfl⟩, s4, ep4, [], [], [], [], et4, ⟨rfl, List.nodup_nil, fun i t h => by simp at h⟩, Nat.zero_le _, er4, ?_, en4, ?_⟩ (fun i σ H' _ h => .inl (.inl h.2.2.1)) ?_ ?_⟩
    · rw [Nat.sub_zero, stk_end hf (Nat.le_refl _)]
      exact True.intro
    · rw [Nat.sub_zero, List.drop_length]
      exact True.intro
    · rintro i x σ G hi ⟨⟨y4, y5, y6, y7, rfl⟩, sG, epG, ts, kvs, rs, ms, etG, tab, lts, erG, ars, enG, ams⟩
      obtain ⟨lti, hi⟩ := rev_at hi
      rw [lw] at lti hi
      obtain ⟨v', hv', dx⟩ := hx.get (at_of (show (preAll st0).length - 1 - i < (preAll st0).length by omega))
      rw [hi] at hv'
      cases hv'
      obtain ⟨r, ek, fd, fr, ek1⟩ := stk_at hf (at_of (show (preAll st0).length - 1 - i < (preAll st0).length by omega))
      have ed := drop_at (at_of (show (preAll st0).length - 1 - i < (preAll st0).length by omega))
      rw [show (preAll st0).length - 1 - i + 1 = (preAll st0).length - i by omega] at ek1 ed
      rw [ek1] at ars
      have en1 : (preAll st0).length - (i + 1) = (preAll st0).length - 1 - i := by omega
      generalize (preAll st0)[(preAll st0).length - 1 - i] = d at dx ek fd ek1 ed ars
      obtain ⟨nm', es, rfl, l3, hnm, hfa⟩ := formed_shape fd
      rw [show kidsD (.tuple (.str nm' :: es)) = es from rfl, List.reverse_append] at ars
      obtain ⟨ra, rb, rfl, ara, arb⟩ := ars.split
      obtain ⟨ks, rfl⟩ : ∃ ks, rb = ks.reverse := ⟨rb.reverse, (List.reverse_reverse _).symm⟩
      have akb := arb.rev
      rw [List.reverse_reverse, List.reverse_reverse] at akb
      have lks := akb.len
      have lra := ara.len
      rw [List.length_reverse] at lra
      have dx' := dx
      cases dx' with
      | @tup b xs _ hb hs =>
      cases hs with
      | @cons v0 vr _ _ h0 hws =>
      cases h0
      have lvr := hws.length
      have hbG := sG _ _ hb
      refine ⟨_, rfl, 1, rfl, ?_⟩
      dsimp only [tNoPart]
      refine sl_from (S := []) (i := 1) ((dx.up sG).up offs_nil) olds_nil fun y G1 sG1 dy => ?_
      have dy := dy.up OffS.all
      rw [List.drop_one, List.tail_cons] at dy
      cases dy with
      | @tup c us _ hc hus =>
      have lus := hus.length
      refine ⟨c, rfl, ⟨_, SqT.of hc⟩, fun D nD => ?_⟩
      have ntD : t ≠ D := ne_of_none (sG1 _ _ etG) nD
      have nrD : rd ≠ D := ne_of_none (sG1 _ _ erG) nD
      have nnD : nm ≠ D := ne_of_none (sG1 _ _ enG) nD
      have npD : rp ≠ D := ne_of_none (sG1 _ _ epG) nD
      have ncD : c ≠ D := ne_of_none hc nD
      have ncr : c ≠ rd := fun e => by
        rw [e, sG1 _ _ erG] at hc
        cases hc
      refine lc_tup (K := K) (a := c) (xs := us) (fun j H6 => ButL [rd, D] G1 H6 ∧ H6 rd = some (.lst (numV (ra ++ (ks.drop j).reverse))) ∧ H6 D = some (.lst (numV (ks.take j))))
        ⟨ButL.of (same_put nD), by rw [upd_ne nrD, List.drop_zero]; exact sG1 _ _ erG, by rw [upd_same]; rfl⟩ (fun j H6 _ h => SqT.of (h.1.at hc (by simp [ncr, ncD]))) ?_ ?_
      · rintro j y H6 hj ⟨bt, e6, eD⟩
        have ltj : j < ks.length := by
          rw [lks, ← lus]
          exact (List.getElem?_eq_some_iff.mp hj).1
        have e6' : H6 rd = some (.lst (numV (ra ++ (ks.drop (j + 1)).reverse) ++ [V.int (ks[j] : Nat)])) := by
          rw [e6, drop_at (at_of ltj), List.reverse_cons, ← List.append_assoc, numV_app]
          rfl
        refine ⟨rfl, (iteT (B := False) ?_ : if true = true then _ else False)⟩
        refine ⟨_, rfl, .inl ⟨rfl, _, .inl (.inl e6')⟩, rd, _, V.int (ks[j] : Nat), rfl, rfl, e6', by simp, ?_⟩
        rw [List.dropLast_concat]
        refine ⟨_, by rw [upd_ne nrD.symm]; exact eD, ?_, ?_, ?_, ?_⟩
        · rw [numV, List.length_map, List.length_take]
          exact small1000 (by omega)
        · exact (bt.put (by simp)).put (by simp)
        · rw [upd_ne nrD, upd_same]
        · rw [upd_same, List.take_add_one, at_of ltj, numV_app]
          rfl
      · rintro H6 ⟨bt, e6, eD⟩
        rw [lus, ← lks, List.drop_length, List.reverse_nil, List.append_nil] at e6
        rw [lus, ← lks, List.take_length] at eD
        have et6 := bt.at (sG1 _ _ etG) (by simp [ntr, ntD])
        have en6 := bt.at (sG1 _ _ enG) (by simp [nrn.symm, nnD])
        have ep6 := bt.at (sG1 _ _ epG) (by simp [nrr.symm, npD])
        have nD0 : H D = none := (sG.trans sG1).free nD
        have s6 : Same H H6 := ButL.same (sG.trans sG1) (fun z hz => by
          rcases List.mem_cons.mp hz with e | hz
          · rw [e]; exact nrd0
          · rw [List.mem_singleton.mp hz]; exact nD0) bt
        have hb6 := s6 _ _ hb
        have keyOf : KeyOf ts (Sum.inr nm' :: numK ks) (.tuple (.str nm' :: es)) := ⟨nm', es, ks, rfl, rfl, akb⟩
        -- number = table.setdefault(..)
        refine ⟨fun σ' H' => ∃ (ts' : List PyData) (kvs' : List (List Key × V)) (n : Nat) (y7' : Option V), σ' = [some (.ref a), some (.ref t), some (.ref rd), some (.ref nm), some (.ref b), some (.ref D), some (.int (n : Int)), y7'] ∧ Same H H' ∧ H' rp = some (.lst ws.reverse) ∧ H' t = some (.dT kvs') ∧ Tab ts' kvs' ∧ ts'.length ≤ i + 1 ∧ (∃ u, ts' = ts ++ u) ∧ ts'[n]? = some (.tuple (.str nm' :: es)) ∧ H' rd = some (.lst (numV ra)) ∧ H' nm = some (.lst (numV ms)), ?_, ?_⟩
        · refine ⟨_, rfl, t, rfl, .inr ⟨kvs, .inl et6⟩, _, rfl, b, _, 0, _, rfl, rfl, SqT.of hb6, atI_nat (j := 0) rfl, _, rfl, D, _, rfl, .inr (.inl (.inl eD)), ?_, fun q nq => ?_⟩
          · simp only [List.append_nil, List.length_cons, numV, List.length_map]
            exact Nat.le_of_lt (small1000 (by omega))
          · have et7 := same_put (o := .tup (V.str nm' :: (numV ks ++ []))) nq _ _ et6
            have er7 := same_put (o := .tup (V.str nm' :: (numV ks ++ []))) nq _ _ e6
            have en7 := same_put (o := .tup (V.str nm' :: (numV ks ++ []))) nq _ _ en6
            have ep7 := same_put (o := .tup (V.str nm' :: (numV ks ++ []))) nq _ _ ep6
            have s7 := s6.trans (same_put (o := .tup (V.str nm' :: (numV ks ++ []))) nq)
            have eq7 : (upd H6 q (.tup (V.str nm' :: (numV ks ++ [])))) q = some (.tup ((Sum.inr nm' :: numK ks : List Key).map kV)) := by rw [upd_same, keyV, List.append_nil]
            generalize upd H6 q (.tup (V.str nm' :: (numV ks ++ []))) = H7 at et7 er7 en7 ep7 s7 eq7 ⊢
            refine ⟨_, rfl, t, kvs, rfl, et7, kvs, _, q, et7, rfl, eq7, big5 (by rw [tab.len]; omega), fun v hv => ?_, fun hv => ?_⟩
            · obtain ⟨n, rfl, hn⟩ := tab.hit keyOf hv
              exact ⟨ts, kvs, n, _, rfl, s7, ep7, et7, tab, by omega, ⟨[], (List.append_nil _).symm⟩, hn, er7, en7⟩
            · refine ⟨ts ++ [.tuple (.str nm' :: es)], kvs ++ [(Sum.inr nm' :: numK ks, .int (ts.length : Int))], ts.length, _, by rw [tab.len]; rfl, fun z o hz => ?_, by rw [upd_ne ntp.symm]; exact ep7, ?_, tab.miss keyOf hv, by rw [List.length_append, List.length_singleton]; omega, ⟨_, rfl⟩, by simp, by rw [upd_ne ntr.symm]; exact er7, by rw [upd_ne ntn.symm]; exact en7⟩
              · rw [upd_ne (ne_of_none hz nt)]
                exact s7 z o hz
              · rw [upd_same, putK_new _ hv, tab.len]
        · rintro σ' H7 ⟨ts', kvs', n, y7', rfl, s7, ep7, et7, tab', lts', ⟨u, eu⟩, hn, er7, en7⟩
          have lms := ams.len
          rw [List.length_reverse, List.length_drop] at lms
          have lst : (stk st0 ((preAll st0).length - i)).length ≤ 100000 := by
            have := len_pre (stk st0 ((preAll st0).length - i))
            rw [stk_drop hf, List.length_drop] at this
            omega
          rw [ek1, List.length_append] at lst
          refine ⟨_, rfl, .inl ⟨rfl, _, .inl (.inl er7)⟩, _, rfl, rd, _, .int (n : Int), rfl, rfl, er7, big5 (by rw [numV, List.length_map]; omega), ?_⟩
          have en8 : (upd H7 rd (.lst (numV ra ++ [V.int (n : Int)]))) nm = some (.lst (numV ms)) := by
            rw [upd_ne nrn.symm]
            exact en7
          refine ⟨_, rfl, .inl ⟨rfl, _, .inl (.inl en8)⟩, _, rfl, nm, _, .int (n : Int), rfl, rfl, en8, big5 (by rw [numV, List.length_map]; omega), ?_⟩
          refine ⟨⟨_, _, _, _, rfl⟩, fun z o hz => ?_, ?_, ts', kvs', ra ++ [n], ms ++ [n], ?_, tab', lts', ?_, ?_, ?_, ?_⟩
          · rw [upd_ne (ne_of_none hz nnm0), upd_ne (ne_of_none hz nrd0)]
            exact s7 z o hz
          · rw [upd_ne nnp.symm, upd_ne nrr.symm]
            exact ep7
          · rw [upd_ne ntn, upd_ne ntr]
            exact et7
          · rw [upd_ne nrn, upd_same]
            simp [numV]
          · rw [en1, ek, List.reverse_cons, eu]
            rw [eu] at hn
            exact (ara.grow u).app ⟨hn, True.intro⟩
          · rw [upd_same]
            simp [numV]
          · rw [en1, ed, List.reverse_cons, eu]
            rw [eu] at hn
            exact (ams.grow u).app ⟨hn, True.intro⟩
    · rintro σ G ⟨⟨y4, y5, y6, y7, rfl⟩, sG, epG, ts, kvs, rs, ms, etG, tab, lts, erG, ars, enG, ams⟩
      have eN : (preAll st0).length - ws.reverse.length = 0 := by rw [List.length_reverse, lw]; omega
      rw [eN, List.drop_zero] at ams
      refine ⟨_, rfl, nm, _, rfl, .inl (.inl enG), fun l1 n1 => ?_⟩
      have sl1 := same_put (o := .lst (numV ms).reverse) n1
      refine ⟨_, rfl, t, kvs, rfl, .inl (sl1 _ _ etG), fun l2 bs n2 ik => ?_⟩
      have sl2 := same_put (o := .lst (bs.map V.ref)) n2
      have n12 : l1 ≠ l2 := ne_of_none upd_same n2
      refine ⟨by show 2 ≤ sizeLine; decide, fun p np => ?_⟩
      have sp := same_put (o := .tup [V.ref l1, V.ref l2]) np
      refine q p l1 l2 _ ts ms.reverse kvs bs (sG.trans (sl1.trans (sl2.trans sp))) upd_same (sp _ _ (sl2 _ _ ?_)) ?_ tab (sp _ _ upd_same) (isKeys_up (sl2.trans sp) ik)
      · rw [upd_same, numV, numV, List.map_reverse]
      · have := ams.rev
        rwa [List.reverse_reverse] at this
end
end K03
/-! Terms replaced, terms with other names. -/
namespace K03
open PySem PySem.Spec PyProof.Rows L2 Kx
mutual
theorem eqv_eq : ∀ (d o : PyData), formedD d = true → PyData.eqv d o = true → d = o
  | .tuple (.str x :: ds), .tuple (.str y :: es), h, e => by
    simp only [PyData.eqv, PyData.eqvAll, Bool.and_eq_true, beq_iff_eq] at e
    rw [formedD, Bool.and_eq_true] at h
    rw [e.1, eqv_all ds es h.2 e.2]
  | .tuple (.str x :: ds), .tuple [], h, e => by simp [PyData.eqv, PyData.eqvAll] at e
  | .tuple (.str x :: ds), .tuple (.none :: es), h, e => by simp [PyData.eqv, PyData.eqvAll] at e
  | .tuple (.str x :: ds), .tuple (.bool _ :: es), h, e => by simp [PyData.eqv, PyData.eqvAll] at e
  | .tuple (.str x :: ds), .tuple (.int _ :: es), h, e => by simp [PyData.eqv, PyData.eqvAll] at e
  | .tuple (.str x :: ds), .tuple (.list _ :: es), h, e => by simp [PyData.eqv, PyData.eqvAll] at e
  | .tuple (.str x :: ds), .tuple (.tuple _ :: es), h, e => by simp [PyData.eqv, PyData.eqvAll] at e
  | .tuple (.str x :: ds), .tuple (.dict _ :: es), h, e => by simp [PyData.eqv, PyData.eqvAll] at e
  | .tuple (.str x :: ds), .none, h, e => by simp [PyData.eqv] at e
  | .tuple (.str x :: ds), .bool _, h, e => by simp [PyData.eqv] at e
  | .tuple (.str x :: ds), .int _, h, e => by simp [PyData.eqv] at e
  | .tuple (.str x :: ds), .str _, h, e => by simp [PyData.eqv] at e
  | .tuple (.str x :: ds), .list _, h, e => by simp [PyData.eqv] at e
  | .tuple (.str x :: ds), .dict _, h, e => by simp [PyData.eqv] at e
  | .tuple (.none :: ds), _, h, e => by simp [formedD, nameD] at h
  | .tuple (.bool _ :: ds), _, h, e => by simp [formedD, nameD] at h
  | .tuple (.int _ :: ds), _, h, e => by simp [formedD, nameD] at h
  | .tuple (.list _ :: ds), _, h, e => by simp [formedD, nameD] at h
  | .tuple (.tuple _ :: ds), _, h, e => by simp [formedD, nameD] at h
  | .tuple (.dict _ :: ds), _, h, e => by simp [formedD, nameD] at h
  | .tuple [], _, h, e => by simp [formedD] at h
  | .none, _, h, e => by simp [formedD] at h
  | .bool _, _, h, e => by simp [formedD] at h
  | .int _, _, h, e => by simp [formedD] at h
  | .str _, _, h, e => by simp [formedD] at h
  | .list _, _, h, e => by simp [formedD] at h
  | .dict _, _, h, e => by simp [formedD] at h
theorem eqv_all : ∀ (ds es : List PyData), formedAll ds = true → PyData.eqvAll ds es = true → ds = es
  | [], [], _, _ => rfl
  | [], _ :: _, _, e => by simp [PyData.eqvAll] at e
  | _ :: _, [], _, e => by simp [PyData.eqvAll] at e
  | d :: ds, e :: es, h, g => by
    rw [formedAll, Bool.and_eq_true] at h
    rw [PyData.eqvAll, Bool.and_eq_true] at g
    rw [eqv_eq d e h.1 g.1, eqv_all ds es h.2 g.2]
end
mutual
theorem eqv_self : ∀ (d : PyData), formedD d = true → PyData.eqv d d = true
  | .tuple (.str x :: ds), h => by
    rw [formedD, Bool.and_eq_true] at h
    simp only [PyData.eqv, PyData.eqvAll, Bool.and_eq_true, beq_iff_eq]
    exact ⟨trivial, eqv_selfs ds h.2⟩
  | .tuple (.none :: ds), h => by simp [formedD, nameD] at h
  | .tuple (.bool _ :: ds), h => by simp [formedD, nameD] at h
  | .tuple (.int _ :: ds), h => by simp [formedD, nameD] at h
  | .tuple (.list _ :: ds), h => by simp [formedD, nameD] at h
  | .tuple (.tuple _ :: ds), h => by simp [formedD, nameD] at h
  | .tuple (.dict _ :: ds), h => by simp [formedD, nameD] at h
  | .tuple [], h => by simp [formedD] at h
  | .none, h => by simp [formedD] at h
  | .bool _, h => by simp [formedD] at h
  | .int _, h => by simp [formedD] at h
  | .str _, h => by simp [formedD] at h
  | .list _, h => by simp [formedD] at h
  | .dict _, h => by simp [formedD] at h
theorem eqv_selfs : ∀ (ds : List PyData), formedAll ds = true → PyData.eqvAll ds ds = true
  | [], _ => by simp [PyData.eqvAll]
  | d :: ds, h => by
    rw [formedAll, Bool.and_eq_true] at h
    rw [PyData.eqvAll, eqv_self d h.1, eqv_selfs ds h.2]
    rfl
end
theorem eqv_iff {d o : PyData} (h : formedD d = true) : PyData.eqv d o = true ↔ d = o :=
  ⟨eqv_eq d o h, fun e => by rw [← e]; exact eqv_self d h⟩
mutual
/-- n in the place of o -/
def putD (o n : PyData) : PyData → PyData
  | .tuple (x :: ds) => if PyData.eqv (.tuple (x :: ds)) o = true then n else .tuple (x :: putAll o n ds)
  | d => if PyData.eqv d o = true then n else d
def putAll (o n : PyData) : List PyData → List PyData
  | [] => []
  | d :: ds => putD o n d :: putAll o n ds
end
theorem putAll_map (o n : PyData) : ∀ ds : List PyData, putAll o n ds = ds.map (putD o n)
  | [] => rfl
  | d :: ds => by rw [putAll, putAll_map o n ds, List.map_cons]
mutual
/-- other names -/
def renD (f : Str → Str) : PyData → PyData
  | .tuple (x :: ds) => .tuple ((match x with | .str z => .str (f z) | c => c) :: renAll f ds)
  | d => d
def renAll (f : Str → Str) : List PyData → List PyData
  | [] => []
  | d :: ds => renD f d :: renAll f ds
end
theorem renAll_map (f : Str → Str) : ∀ ds : List PyData, renAll f ds = ds.map (renD f)
  | [] => rfl
  | d :: ds => by rw [renAll, renAll_map f ds, List.map_cons]
mutual
theorem put_formed (o n : PyData) (hn : formedD n = true) : ∀ d : PyData, formedD d = true → formedD (putD o n d) = true
  | .tuple (x :: ds), h => by
    rw [putD]
    split
    · exact hn
    · rw [formedD, Bool.and_eq_true] at h ⊢
      refine ⟨?_, put_formeds o n hn ds h.2⟩
      rw [putAll_map, List.length_map]
      exact h.1
  | .tuple [], h => by cases h
  | .none, h => by cases h
  | .bool _, h => by cases h
  | .int _, h => by cases h
  | .str _, h => by cases h
  | .list _, h => by cases h
  | .dict _, h => by cases h
theorem put_formeds (o n : PyData) (hn : formedD n = true) : ∀ ds : List PyData, formedAll ds = true → formedAll (putAll o n ds) = true
  | [], _ => rfl
  | d :: ds, h => by
    rw [formedAll, Bool.and_eq_true] at h
    rw [putAll, formedAll, put_formed o n hn d h.1, put_formeds o n hn ds h.2]
    rfl
end
mutual
theorem ren_formed (f : Str → Str) (hf : ∀ x, isNm x = true → isNm (f x) = true) : ∀ d : PyData, formedD d = true → formedD (renD f d) = true
  | .tuple (.str x :: ds), h => by
    simp only [renD, formedD, Bool.and_eq_true, nameD] at h ⊢
    refine ⟨⟨?_, hf x h.1.2⟩, ren_formeds f hf ds h.2⟩
    rw [renAll_map, List.length_map]
    exact h.1.1
  | .tuple (.none :: ds), h => by simp [formedD, nameD] at h
  | .tuple (.bool _ :: ds), h => by simp [formedD, nameD] at h
  | .tuple (.int _ :: ds), h => by simp [formedD, nameD] at h
  | .tuple (.list _ :: ds), h => by simp [formedD, nameD] at h
  | .tuple (.tuple _ :: ds), h => by simp [formedD, nameD] at h
  | .tuple (.dict _ :: ds), h => by simp [formedD, nameD] at h
  | .tuple [], h => by cases h
  | .none, h => by cases h
  | .bool _, h => by cases h
  | .int _, h => by cases h
  | .str _, h => by cases h
  | .list _, h => by cases h
  | .dict _, h => by cases h
theorem ren_formeds (f : Str → Str) (hf : ∀ x, isNm x = true → isNm (f x) = true) : ∀ ds : List PyData, formedAll ds = true → formedAll (renAll f ds) = true
  | [], _ => rfl
  | d :: ds, h => by
    rw [formedAll, Bool.and_eq_true] at h
    rw [renAll, formedAll, ren_formed f hf d h.1, ren_formeds f hf ds h.2]
    rfl
end
end K03
/-! numbered, put_in. -/
namespace K03
open PySem PySem.Spec PyProof.Rows L2 Kx
theorem AtAll.get {ts : List PyData} : ∀ {is : List Nat} {es : List PyData} {k : Nat} {t : PyData}, AtAll ts is es → es[k]? = some t → ∃ i, is[k]? = some i ∧ ts[i]? = some t
  | i :: is, e :: es, 0, t, h, g => by
    rw [List.getElem?_cons_zero] at g
    rw [← Option.some.inj g]
    exact ⟨i, rfl, h.1⟩
  | i :: is, e :: es, k + 1, t, h, g => by
    obtain ⟨j, h1, h2⟩ := AtAll.get (k := k) h.2 (by simpa using g)
    exact ⟨j, by simpa using h1, h2⟩
  | [], [], k, t, _, g => by simp at g
  | [], _ :: _, _, _, h, _ => h.elim
  | _ :: _, [], _, _, h, _ => h.elim
theorem DxAll.split {K : PySem.W.Frag} {H : Hp} : ∀ {ds : List PyData} {vs : List V} {es : List PyData}, DxAll K H vs (ds ++ es) → ∃ a b, vs = a ++ b ∧ DxAll K H a ds ∧ DxAll K H b es
  | [], vs, es, h => ⟨[], vs, rfl, .nil, h⟩
  | d :: ds, _, es, .cons h t => by
    obtain ⟨a, b, rfl, h1, h2⟩ := DxAll.split t
    exact ⟨_ :: a, b, rfl, .cons h h1, h2⟩
theorem numV_get {is : List Nat} {k i : Nat} (h : is[k]? = some i) : (numV is)[k]? = some (V.int (i : Int)) := by
  rw [numV, List.getElem?_map, h]
  rfl
section
variable {P : Program} {w : World} {K : PySem.W.Frag} {mg : Str → Option Value} {base : Heap}
def spNums (K : PySem.W.Frag) : Sp := fun vs H Q _ => ∃ (a : Addr) (ws : List V) (st : List PyData), vs = [.ref a] ∧ SqL K H a ws ∧ DxAll K H ws (preAll st) ∧ formedAll st = true ∧ (preAll st).length ≤ 100000 ∧
  ∀ nl H' ts is, Same H H' → H' nl = some (.lst (numV is)) → AtAll ts is (preAll st) → ts.Nodup → Q (.ref nl) H'
theorem ok_nums (T : Tx K mg) : FnOk P w K mg base CX0 2 T.anumbered T.dnumbered ["parts"] (spNums K) := by
  have nd := sc_numbered.nd
  have G := ok_rows (P := P) (w := w) (base := base) T
  refine T.fnumbered.ok sc_numbered (fun vs H Q E h => ?_) (fun cdv A outer s H vs Q E hr h => ?_)
  · obtain ⟨a, ws, st, rfl, _⟩ := h
    rfl
  · obtain ⟨a, ws, st0, rfl, ha, hx, hf, bd, q⟩ := h
    refine ⟨_, (pss_one (ps_ret (pe_ix ix_tup (pe_call G (hr.mono (by omega)) (by rfl) T.gnumbered_rows T.fnumbered_rows.kp T.nnumbered_rows .nil pass0 (pa_cons (pv 0) pa_nil)) pe_int (fun _ _ => rfl)))), ?_⟩
    exact ⟨_, rfl, a, ws, st0, rfl, ha, hx, hf, bd, fun p nl tl H' ts is kvs bs s e1 e2 at_ tab _ _ => ⟨p, _, 0, _, rfl, rfl, SqT.of e1, atI_nat (j := 0) rfl, q nl H' ts is s e2 at_ tab.nodup⟩⟩
def spPut (K : PySem.W.Frag) : Sp := fun vs H Q _ => ∃ (x o n : V) (d e c : PyData), vs = [x, o, n] ∧ Dx K H x d ∧ Dx K H o e ∧ Dx K H n c ∧ formedD d = true ∧ formedD e = true ∧ (preD d).length + (preD e).length ≤ 100000 ∧
  ∀ v H', Same H H' → Dx K H' v (putD e c d) → Q v H'
theorem ok_put (T : Tx K mg) : FnOk P w K mg base CX0 3 T.aput_in T.dput_in ["term", "old", "new"] (spPut K) := by
  have nd := sc_put_in.nd
  have G1 := ok_pre (P := P) (w := w) (base := base) T
  have G2 := ok_nums (P := P) (w := w) (base := base) T
  refine T.fput_in.ok sc_put_in (fun vs H Q E h => ?_) (fun cdv A outer s H vs Q E hr h => ?_)
  · obtain ⟨x, o, n, d, e, c, rfl, _⟩ := h
    rfl
  · obtain ⟨x, o, n, d, e, c, rfl, hx, ho, hn, fd, fe, bd, q⟩ := h
    refine ⟨_, (pss_cons (ps_set (i := 3) nd rfl (.inl rfl) (pe_callB call_len_seq (by rfl) T.b_len (by decide +kernel) (pa_cons (pe_call G1 (hr.mono (by omega)) (by rfl) T.gpreorder T.fpreorder.kp T.npreorder .nil pass0 (pa_cons (pe_lst (pa_cons (pv 1) pa_nil)) pa_nil)) pa_nil)))
      (pss_cons (ps_set (i := 4) nd rfl (.inl rfl) (pe_call G1 (hr.mono (by omega)) (by rfl) T.gpreorder T.fpreorder.kp T.npreorder .nil pass0 (pa_cons (pe_lst (pa_cons (pv 1) (pa_cons (pv 0) pa_nil))) pa_nil)))
      (pss_cons (ps_set (i := 5) nd rfl (.inl rfl) (pe_call G2 (hr.mono (by omega)) (by rfl) T.gnumbered T.fnumbered.kp T.nnumbered .nil pass0 (pa_cons (pv 4) pa_nil)))
      (pss_cons (ps_set (i := 6) nd rfl (.inr rfl) (pe_lst pa_nil))
      (pss_cons (ps_for PassesOwn.never rfl (pi_range3 (by rfl) T.b_range (pa_cons (pe_op op_sub (pe_callB call_len_seq (by rfl) T.b_len (by decide +kernel) (pa_cons (pv 4) pa_nil)) pe_int) (pa_cons (pe_op op_sub (pv 3) pe_int) (pa_cons (pe_un un_neg pe_int) pa_nil)))) (pg_name (i := 7) nd rfl (.inl rfl)) (pss_cons (ps_setLc (i := 8) (own := [("_", 9)]) (g := (gName 9)) (tt := tYes) (te := tBM0 K "list" rPop (tVar 6)) (by rfl) nd rfl rfl (sw_true rfl rfl rfl (by decide +kernel)) (pi_tup (pe_slice sl_tupA (pe_ix ix_list (pv 4) (pv 7) (fun _ _ => rfl)) (po_some pe_int) po_none)) (blkOk_by (own := [("_", 9)]) (N := N_put_in) (sc := defScope s_put_in) (by decide +kernel)) (fun _ _ _ _ _ => pg_name (i := 9) nd rfl (.inl rfl)) (fun _ _ _ _ _ => pts_nil) (fun _ _ _ _ _ => (pe_bm0 PySem.F.plainAttrs_list PySem.F.slot_list_pop PySem.F.type_list_pop mt_pop (pv 6))))
      (pss_one (ps_if (pt_cmpR op_eq (pe_ix ix_list (pv 5) (pv 7) (fun _ _ => rfl)) (pe_ix ix_list (pv 5) pe_int (fun _ _ => rfl)) (nomark _)) (pss_one (ps_expr (pe_bm PySem.F.plainAttrs_list PySem.F.slot_list_append PySem.F.type_list_append mt_append (pv 6) (pa_cons (pv 2) pa_nil)))) (pss_one (ps_expr (pe_bm PySem.F.plainAttrs_list PySem.F.slot_list_append PySem.F.type_list_append mt_append (pv 6) (pa_cons (pe_tup (pa_cons (pe_ix ix_tup (pe_ix ix_list (pv 4) (pv 7) (fun _ _ => rfl)) pe_int (fun _ _ => rfl)) (StX.pa_star (pv 8) pa_nil))) pa_nil))))))))
      (pss_one (ps_ret (pe_ix ix_list (pv 6) pe_int (fun _ _ => rfl))))))))), ?_⟩
    have eP1 : preAll [e] = preD e := by simp [preAll]
    have eP2 : preAll [e, d] = preD e ++ preD d := by simp [preAll]
    have f2 : formedAll [e, d] = true := by simp [formedAll, fe, fd]
    have lN : (preAll [e, d]).length = (preD e).length + (preD d).length := by rw [eP2, List.length_append]
    -- many
    refine ⟨_, rfl, (by show 1 ≤ sizeLine; decide), fun l1 n1 => ?_⟩
    have s1 := same_put (o := .lst [o]) n1
    refine ⟨l1, [o], [e], H, rfl, .inl (.inl upd_same), s1, .cons ho .nil, by simp [formedAll, fe], by rw [eP1]; omega, fun p1 H1 us1 sA np1 ep1 du1 => ⟨p1, us1, rfl, .inl (.inl (.inl ep1)), ?_⟩⟩
    have lu1 := du1.length
    rw [eP1] at lu1
    rw [lu1]
    have s2 := s1.trans sA
    -- parts
    refine ⟨_, rfl, _, rfl, (by show 2 ≤ sizeLine; decide), fun l2 n2 => ?_⟩
    have s3 := s2.trans (same_put (o := .lst [o, x]) n2)
    refine ⟨l2, [o, x], [e, d], H, rfl, .inl (.inl upd_same), s3, .cons ho (.cons hx .nil), f2, by rw [lN]; omega, fun pp H2 us2 sB npp epp du2 => ?_⟩
    have s4 := s3.trans sB
    have du2 := du2.up s4
    have lu2 := du2.length
    -- numbers
    refine ⟨_, rfl, pp, us2, [e, d], rfl, .inl (.inl epp), du2, f2, by rw [lN]; omega, fun nl H3 ts is sC enl at_ ndt => ?_⟩
    have s5 := s4.trans sC
    have epp3 := sC _ _ epp
    have du3 := du2.up sC
    have lis := at_.len
    -- ready
    refine ⟨Nat.zero_le _, fun rd nrd => ?_⟩
    have nrd0 := s5.free nrd
    have s6 := s5.trans (same_put (o := .lst []) nrd)
    have epp4 := same_put (o := .lst []) nrd _ _ epp3
    have enl4 := same_put (o := .lst []) nrd _ _ enl
    have er4 : (upd H3 rd (.lst [])) rd = some (.lst []) := upd_same
    have npr : pp ≠ rd := ne_of_none epp3 nrd
    have nnr : nl ≠ rd := ne_of_none enl nrd
    have sO : Same H3 (OffS [rd] (upd H3 rd (.lst []))) := same_offs (same_put nrd) (fun b hb => by rw [List.mem_singleton.mp hb]; exact nrd)
    generalize upd H3 rd (.lst []) = H4 at s6 epp4 enl4 er4 sO ⊢
    have du4 := du3.up sO
    have hn4 := (hn.up s5).up sO
    have rg : RgC ((us2.length : Int) - 1) (((preD e).length : Int) - 1) (-1) (preD d).length := by
      have z := RgC.neg (i := (us2.length : Int) - 1) (j := ((preD e).length : Int) - 1) (by omega) (by omega) (by omega) (by omega)
      rwa [show ((us2.length : Int) - 1 - (((preD e).length : Int) - 1)).toNat = (preD d).length by omega] at z
    have hend : stk [e, d] (preD e).length = [d] := stk_first fe (by simp [formedAll, fd])
    have one : ∀ b, b ∈ [rd] → H b = none := fun b hb => by rw [List.mem_singleton.mp hb]; exact nrd0
    refine ⟨_, rfl, pp, us2, rfl, .inl (.inl (.inl epp4)), _, 1, rfl, rfl, _, rfl, _, 1, rfl, rfl, 1, rfl, _, _, _, _, rfl, rg, for_rangeC (fun t σ G => (∃ y7 y8 y9, σ = [some x, some o, some n, some (.int ((preD e).length : Nat)), some (.ref pp), some (.ref nl), some (.ref rd), y7, y8, y9]) ∧ ButL [rd] H4 G ∧
        ∃ rs : List V, G rd = some (.lst rs) ∧ DxAll K (OffS [rd] G) rs ((stk [e, d] (us2.length - t)).map (putD e c)).reverse)
      ⟨⟨_, _, _, rfl⟩, ButL.refl, [], er4, ?_⟩ ?_ ?_⟩
    · rw [Nat.sub_zero, stk_end f2 (by omega)]
      exact .nil
    · rintro t σ G ht ⟨⟨y7, y8, y9, rfl⟩, bG, rs, erG, drs⟩
      have hk : us2.length - 1 - t < us2.length := by omega
      have hk2 : us2.length - 1 - t < (preAll [e, d]).length := by omega
      have sG : Same H G := ButL.same s6 one bG
      have eppG := bG.at epp4 (by simp [npr])
      have enlG := bG.at enl4 (by simp [nnr])
      have so : Same (OffS [rd] H4) (OffS [rd] G) := offs_but bG (fun b h1 h2 => absurd h1 h2)
      obtain ⟨v, hv, dv⟩ := du4.get (at_of hk2)
      obtain ⟨r, ek, fp, fr, ek1⟩ := stk_at f2 (at_of hk2)
      obtain ⟨i, hi, ti⟩ := at_.get (at_of hk2)
      obtain ⟨i0, hi0, ti0⟩ := at_.get (k := 0) (t := e) (by rw [eP2, preD_eq fe]; rfl)
      have en1 : us2.length - t = us2.length - 1 - t + 1 := by omega
      have en2 : us2.length - (t + 1) = us2.length - 1 - t := by omega
      rw [en1, ek1] at drs
      rw [en2, ek]
      generalize (preAll [e, d])[us2.length - 1 - t] = p at dv ek fp ek1 ti drs ⊢
      obtain ⟨nm, es, rfl, l3, hnm, hfa⟩ := formed_shape fp
      rw [show kidsD (.tuple (.str nm :: es)) = es from rfl, List.map_append, List.reverse_append] at drs
      obtain ⟨ra, rb, rfl, dra, drb⟩ := DxAll.split drs
      obtain ⟨zs, rfl⟩ : ∃ zs, rb = zs.reverse := ⟨rb.reverse, (List.reverse_reverse _).symm⟩
      have dzs := dxr drb
      rw [List.reverse_reverse, List.reverse_reverse] at dzs
      have lzs := dzs.length
      rw [List.length_map] at lzs
      have lra := dra.length
      rw [List.length_reverse, List.length_map] at lra
      have lst : r.length ≤ 100000 := by
        have z := len_pre (stk [e, d] (us2.length - 1 - t))
        rw [stk_drop f2, List.length_drop, ek, List.length_cons] at z
        omega
      have dvG := dv.up so
      have dv' := dvG
      cases dv' with
      | @tup b xs _ hb hs =>
      cases hs with
      | @cons v0 vr _ _ h0 hws =>
      cases h0
      have hbG : G b = some (.tup (.str nm :: vr)) := OffS.all _ _ hb
      rw [show ((us2.length : Int) - 1 + ((t : Nat) : Int) * -1) = ((us2.length - 1 - t : Nat) : Int) by omega]
      refine ⟨_, rfl, _, rfl, pp, us2, _, _, rfl, rfl, .inl (.inl eppG), atI_nat (j := us2.length - 1 - t) hv, 1, rfl, ?_⟩
      dsimp only [tNoPart]
      refine sl_from (S := []) (i := 1) ((dvG.up OffS.all).up offs_nil) olds_nil fun y G1 sG1 dy => ?_
      have dy := dy.up OffS.all
      rw [List.drop_one, List.tail_cons] at dy
      cases dy with
      | @tup cc us _ hc hus =>
      have lus := hus.length
      have erG1 := sG1 _ _ erG
      have so1 : Same (OffS [rd] G) (OffS [rd] G1) := OffS.same sG1
      refine ⟨cc, rfl, ⟨_, SqT.of hc⟩, fun D nD => ?_⟩
      have nrD : rd ≠ D := ne_of_none erG1 nD
      have ncD : cc ≠ D := ne_of_none hc nD
      have ncr : cc ≠ rd := fun z => by
        rw [z, erG1] at hc
        cases hc
      refine lc_tup (K := K) (a := cc) (xs := us) (fun j H6 => ButL [rd, D] G1 H6 ∧ H6 rd = some (.lst (ra ++ (zs.drop j).reverse)) ∧ H6 D = some (.lst (zs.take j)))
        ⟨ButL.of (same_put nD), by rw [upd_ne nrD, List.drop_zero]; exact erG1, by rw [upd_same]; rfl⟩ (fun j H6 _ h => SqT.of (h.1.at hc (by simp [ncr, ncD]))) ?_ ?_
      · rintro j y H6 hj ⟨bt, e6, eD⟩
        have ltj : j < zs.length := by
          rw [lzs, ← lus]
          exact (List.getElem?_eq_some_iff.mp hj).1
        have e6' : H6 rd = some (.lst (ra ++ (zs.drop (j + 1)).reverse ++ [zs[j]])) := by
          rw [e6, drop_at (at_of ltj), List.reverse_cons, ← List.append_assoc]
        refine ⟨rfl, (iteT (B := False) ?_ : if true = true then _ else False)⟩
        refine ⟨_, rfl, .inl ⟨rfl, _, .inl (.inl e6')⟩, rd, _, zs[j], rfl, rfl, e6', by simp, ?_⟩
        rw [List.dropLast_concat]
        refine ⟨_, by rw [upd_ne nrD.symm]; exact eD, ?_, ?_, ?_, ?_⟩
        · rw [List.length_take]
          exact small1000 (by omega)
        · exact (bt.put (by simp)).put (by simp)
        · rw [upd_ne nrD, upd_same]
        · rw [upd_same, List.take_add_one, at_of ltj]
          rfl
      · rintro H6 ⟨bt, e6, eD⟩
        rw [lus, ← lzs, List.drop_length, List.reverse_nil, List.append_nil] at e6
        rw [lus, ← lzs, List.take_length] at eD
        have nD0 : H4 D = none := by
          cases z : H4 D with
          | none => rfl
          | some ob =>
            rw [sG1 _ _ (bG.at z (by simp [nrD.symm]))] at nD
            cases nD
        have epp6 := bt.at (sG1 _ _ eppG) (by simp [npr, ne_of_none (sG1 _ _ eppG) nD])
        have enl6 := bt.at (sG1 _ _ enlG) (by simp [nnr, ne_of_none (sG1 _ _ enlG) nD])
        have nbr : b ≠ rd := fun z => by
          rw [z, erG] at hbG
          cases hbG
        have hb6 := bt.at (sG1 _ _ hbG) (by simp [nbr, ne_of_none (sG1 _ _ hbG) nD])
        have so6 : Same (OffS [rd] G1) (OffS [rd] H6) := offs_but bt (fun b h1 h2 => by
          rcases List.mem_cons.mp h1 with z | h1
          · exact absurd (by rw [z]; exact List.mem_singleton_self _) h2
          · rw [List.mem_singleton.mp h1]; exact nD)
        have b6 : ButL [rd, D] H4 H6 := (bG.weak (by simp)).trans ((ButL.of sG1).trans bt)
        have dra6 := dra.up (so1.trans so6)
        have dzs6 := dzs.up (so1.trans so6)
        have hn6 := hn4.up (so.trans (so1.trans so6))
        have fin : ∀ (G' : Hp) (v : V) (σ' : L2.St), (∃ y7 y8 y9, σ' = [some x, some o, some n, some (.int ((preD e).length : Nat)), some (.ref pp), some (.ref nl), some (.ref rd), y7, y8, y9]) → Same H6 G' → Dx K (OffS [rd] G') v (putD e c (.tuple (.str nm :: es))) →
            (∃ y7 y8 y9, σ' = [some x, some o, some n, some (.int ((preD e).length : Nat)), some (.ref pp), some (.ref nl), some (.ref rd), y7, y8, y9]) ∧ ButL [rd] H4 (upd G' rd (.lst (ra ++ [v]))) ∧ ∃ rs : List V, (upd G' rd (.lst (ra ++ [v]))) rd = some (.lst rs) ∧ DxAll K (OffS [rd] (upd G' rd (.lst (ra ++ [v])))) rs (((.tuple (.str nm :: es)) :: r).map (putD e c)).reverse := fun G' v σ' hσ sG' dv => by
          have so7 : Same (OffS [rd] G') (OffS [rd] (upd G' rd (.lst (ra ++ [v])))) := offs_but (ButL.put ButL.refl (List.mem_singleton_self _)) (fun b h1 h2 => absurd h1 h2)
          refine ⟨hσ, fun bb ob hh nn => ?_, _, upd_same, ?_⟩
          · rw [upd_ne (fun z => nn (by rw [z]; exact List.mem_singleton_self _))]
            exact sG' _ _ (b6 bb ob hh (by
              intro z
              rcases List.mem_cons.mp z with z | z
              · exact nn (by rw [z]; exact List.mem_singleton_self _)
              · rw [List.mem_singleton.mp z, nD0] at hh
                cases hh))
          · rw [List.map_cons, List.reverse_cons]
            exact DxAll.append (dra6.up ((OffS.same sG').trans so7)) (.cons (dv.up so7) .nil)
        refine ⟨_, rfl, _, rfl, nl, _, _, _, rfl, rfl, .inl (.inl enl6), atI_nat (j := us2.length - 1 - t) (numV_get hi), _, rfl, nl, _, 0, _, rfl, rfl, .inl (.inl enl6), atI_nat (j := 0) (numV_get hi0), rfl, _, rfl, ite2 (fun e1 => ?_) (fun e1 => ?_)⟩
        · have z := V.int.inj (of_decide_eq_true e1)
          have eii : i = i0 := by omega
          have epe : PyData.tuple (.str nm :: es) = e := by
            rw [eii, ti0] at ti
            exact (Option.some.inj ti).symm
          refine ⟨_, rfl, .inl ⟨rfl, _, .inl (.inl e6)⟩, _, rfl, rd, ra, n, rfl, rfl, e6, big5 (by omega), ?_⟩
          refine fin H6 n _ ⟨_, _, _, rfl⟩ (Same.refl _) ?_
          rw [putD, if_pos ((eqv_iff fp).mpr epe)]
          exact hn6
        · have epe : ¬ PyData.tuple (.str nm :: es) = e := fun z => by
            rw [z] at ti
            rw [at_uniq ndt ti ti0] at e1
            simp at e1
          refine ⟨_, rfl, .inl ⟨rfl, _, .inl (.inl e6)⟩, _, rfl, _, rfl, pp, us2, _, _, rfl, rfl, .inl (.inl epp6), atI_nat (j := us2.length - 1 - t) hv, b, _, 0, _, rfl, rfl, SqT.of hb6, atI_nat (j := 0) rfl, _, rfl, D, _, rfl, .inr (.inl (.inl eD)), ?_, fun q1 nq => ?_⟩
          · simp only [List.append_nil, List.length_cons]
            exact Nat.le_of_lt (small1000 (by omega))
          · have sq := same_put (o := .tup (V.str nm :: (zs ++ []))) nq
            have e7 := sq _ _ e6
            have nqr : q1 ≠ rd := fun z => by
              rw [z, e6] at nq
              cases nq
            refine ⟨rd, ra, _, rfl, rfl, e7, big5 (by omega), ?_⟩
            refine fin _ _ _ ⟨_, _, _, rfl⟩ sq ?_
            rw [putD, if_neg (fun z => epe ((eqv_iff fp).mp z)), putAll_map]
            have dzq := dzs6.up (OffS.same sq)
            rw [List.append_nil] at dzq ⊢
            exact .tup (OffS.out (by simp [nqr]) upd_same) (.cons (.str nm) dzq)
    · rintro σ G ⟨⟨y7, y8, y9, rfl⟩, bG, rs, erG, drs⟩
      rw [show us2.length - (preD d).length = (preD e).length by omega, hend] at drs
      cases drs with
      | @cons v _ _ _ dv drs =>
      cases drs
      exact ⟨_, rfl, rd, _, 0, v, rfl, rfl, .inl (.inl erG), atI_nat (j := 0) rfl, q v G (ButL.same s6 one bG) (dv.up OffS.all)⟩
end
end K03
/-! with_names. -/
namespace K03
open PySem PySem.Spec PyProof.Rows L2 Kx
def strD (m : List (Str × Str)) : List (Key × V) := m.map fun p => (Sum.inr p.1, V.str p.2)
def look (m : List (Str × Str)) (x : Str) : Option Str := (m.find? fun p => decide (p.1 = x)).map Prod.snd
def nmOf (m : List (Str × Str)) (x : Str) : Str := (look m x).getD x
theorem val_strD (x : Str) : ∀ m : List (Str × Str), valV (strD m) (Sum.inr x) = (look m x).map V.str
  | [] => rfl
  | p :: m => by
    by_cases e : p.1 = x
    · rw [show strD (p :: m) = (Sum.inr p.1, V.str p.2) :: strD m from rfl, valV_pos (by rw [e]), look, List.find?_cons_of_pos (by simp [e])]
      rfl
    · rw [show strD (p :: m) = (Sum.inr p.1, V.str p.2) :: strD m from rfl, valV_neg (fun z => e (Sum.inr.inj z)), val_strD x m, look, look, List.find?_cons_of_neg (by simp [e])]
theorem look_getD (m : List (Str × Str)) (x : Str) : ((look m x).map V.str).getD (V.str x) = V.str (nmOf m x) := by
  unfold nmOf
  cases look m x <;> rfl
theorem rd_up {H H' : Hp} {a : Addr} {u : HO} (s : Same H H') (h : Rd H a u) : Rd H' a u := by
  rcases h with h | ⟨o, h⟩
  · exact .inl (s _ _ h)
  · exact .inr ⟨o, s _ _ h⟩
section
variable {P : Program} {w : World} {K : PySem.W.Frag} {mg : Str → Option Value} {base : Heap}
def spWith (K : PySem.W.Frag) : Sp := fun vs H Q _ => ∃ (x : V) (a : Addr) (d : PyData) (m : List (Str × Str)), vs = [x, .ref a] ∧ Dx K H x d ∧ Rd H a (.dK (strD m)) ∧ formedD d = true ∧ (preD d).length ≤ 100000 ∧
  ∀ v H', Same H H' → Dx K H' v (renD (nmOf m) d) → Q v H'
theorem ok_with (T : Tx K mg) : FnOk P w K mg base CX0 2 T.awith_names T.dwith_names ["term", "names"] (spWith K) := by
  have nd := sc_with_names.nd
  have G1 := ok_pre (P := P) (w := w) (base := base) T
  refine T.fwith_names.ok sc_with_names (fun vs H Q E h => ?_) (fun cdv A outer s H vs Q E hr h => ?_)
  · obtain ⟨x, a, d, m, rfl, _⟩ := h
    rfl
  · obtain ⟨x, a, d, m, rfl, hx, ha, fd, bd, q⟩ := h
    have hu := hu_of hr
    refine ⟨_, (pss_cons (ps_set (i := 2) nd rfl (.inr rfl) (pe_lst pa_nil))
      (pss_cons (ps_for PassesOwn.never rfl (pi_list (pe_revL (pe_call G1 (hr.mono (by omega)) (by rfl) T.gpreorder T.fpreorder.kp T.npreorder .nil pass0 (pa_cons (pe_lst (pa_cons (pv 0) pa_nil)) pa_nil)))) (pg_name (i := 3) nd rfl (.inl rfl)) (pss_cons (ps_setLc (i := 4) (own := [("_", 5)]) (g := (gName 5)) (tt := tYes) (te := tBM0 K "list" rPop (tVar 2)) (by rfl) nd rfl rfl (sw_true rfl rfl rfl (by decide +kernel)) (pi_tup (pe_slice sl_tupA (pv 3) (po_some pe_int) po_none)) (blkOk_by (own := [("_", 5)]) (N := N_with_names) (sc := defScope s_with_names) (by decide +kernel)) (fun _ _ _ _ _ => pg_name (i := 5) nd rfl (.inl rfl)) (fun _ _ _ _ _ => pts_nil) (fun _ _ _ _ _ => (pe_bm0 PySem.F.plainAttrs_list PySem.F.slot_list_pop PySem.F.type_list_pop mt_pop (pv 2))))
      (pss_one (ps_expr (pe_bm PySem.F.plainAttrs_list PySem.F.slot_list_append PySem.F.type_list_append mt_append (pv 2) (pa_cons (pe_tup (pa_cons (pe_dget2 hu (pv 1) (pe_ix ix_tup (pv 3) pe_int (fun _ _ => rfl)) (pe_ix ix_tup (pv 3) pe_int (fun _ _ => rfl)) ⟨by rfl, by rfl, by rfl, by rfl⟩) (StX.pa_star (pv 4) pa_nil))) pa_nil))))))
      (pss_one (ps_ret (pe_ix ix_list (pv 2) pe_int (fun _ _ => rfl)))))), ?_⟩
    have f1 : formedAll [d] = true := by simp [formedAll, fd]
    have eP : preAll [d] = preD d := by simp [preAll]
    refine ⟨Nat.zero_le _, fun rd nrd0 => ?_⟩
    have s1 := same_put (o := .lst []) nrd0
    have er1 : (upd H rd (.lst [])) rd = some (.lst []) := upd_same
    generalize upd H rd (.lst []) = H1 at s1 er1 ⊢
    refine ⟨_, rfl, (by show 1 ≤ sizeLine; decide), fun l1 n1 => ?_⟩
    have s2 := s1.trans (same_put (o := .lst [x]) n1)
    have er2 := same_put (o := .lst [x]) n1 _ _ er1
    refine ⟨l1, [x], [d], H, rfl, .inl (.inl upd_same), s2, .cons hx .nil, f1, by rw [eP]; exact bd, fun pp H2 us sA npp epp du => ⟨pp, us, rfl, .inl (.inl epp), fun rp nrp => ?_⟩⟩
    have s3 := s2.trans sA
    have er3 := sA _ _ er2
    have lu := du.length
    have s4 := s3.trans (same_put (o := .lst us.reverse) nrp)
    have er4 := same_put (o := .lst us.reverse) nrp _ _ er3
    have nrr : rd ≠ rp := ne_of_none er3 nrp
    have ep4 : (upd H2 rp (.lst us.reverse)) rp = some (.lst us.reverse) := upd_same
    generalize upd H2 rp (.lst us.reverse) = H4 at s4 er4 ep4 ⊢
    have one : ∀ b, b ∈ [rd] → H b = none := fun b hb => by rw [List.mem_singleton.mp hb]; exact nrd0
    have sO : Same H (OffS [rd] H4) := same_offs s4 one
    have du4 := du.up sO
    refine ⟨rp, rfl, ⟨_, .inl (.inl ep4)⟩, for_list (K := K) (a := rp) (xs := us.reverse) (fun t σ G => (∃ y3 y4 y5, σ = [some x, some (.ref a), some (.ref rd), y3, y4, y5]) ∧ ButL [rd] H4 G ∧
        ∃ rs : List V, G rd = some (.lst rs) ∧ DxAll K (OffS [rd] G) rs ((stk [d] (us.length - t)).map (renD (nmOf m))).reverse)
      ⟨⟨_, _, _, rfl⟩, ButL.refl, [], er4, ?_⟩ (fun t σ G _ h => .inl (.inl (h.2.1.at ep4 (by simp [nrr.symm])))) ?_ ?_⟩
    · rw [Nat.sub_zero, stk_end f1 (by omega)]
      exact .nil
    · rintro t v σ G hi ⟨⟨y3, y4, y5, rfl⟩, bG, rs, erG, drs⟩
      obtain ⟨lti, hi⟩ := rev_at hi
      have hk2 : us.length - 1 - t < (preAll [d]).length := by omega
      have sG : Same H G := ButL.same s4 one bG
      have so : Same (OffS [rd] H4) (OffS [rd] G) := offs_but bG (fun b h1 h2 => absurd h1 h2)
      obtain ⟨v', hv, dv⟩ := du4.get (at_of hk2)
      rw [hi] at hv
      cases hv
      obtain ⟨r, ek, fp, fr, ek1⟩ := stk_at f1 (at_of hk2)
      have en1 : us.length - t = us.length - 1 - t + 1 := by omega
      have en2 : us.length - (t + 1) = us.length - 1 - t := by omega
      rw [en1, ek1] at drs
      rw [en2, ek]
      generalize (preAll [d])[us.length - 1 - t] = p at dv ek fp ek1 drs ⊢
      obtain ⟨nm, es, rfl, l3, hnm, hfa⟩ := formed_shape fp
      rw [show kidsD (.tuple (.str nm :: es)) = es from rfl, List.map_append, List.reverse_append] at drs
      obtain ⟨ra, rb, rfl, dra, drb⟩ := DxAll.split drs
      obtain ⟨zs, rfl⟩ : ∃ zs, rb = zs.reverse := ⟨rb.reverse, (List.reverse_reverse _).symm⟩
      have dzs := dxr drb
      rw [List.reverse_reverse, List.reverse_reverse] at dzs
      have lzs := dzs.length
      rw [List.length_map] at lzs
      have lra := dra.length
      rw [List.length_reverse, List.length_map] at lra
      have lst : r.length ≤ 100000 := by
        have z := len_pre (stk [d] (us.length - 1 - t))
        rw [stk_drop f1, List.length_drop, ek, List.length_cons, eP] at z
        omega
      have dvG := dv.up so
      have dv' := dvG
      cases dv' with
      | @tup b xs _ hb hs =>
      cases hs with
      | @cons v0 vr _ _ h0 hws =>
      cases h0
      have hbG : G b = some (.tup (.str nm :: vr)) := OffS.all _ _ hb
      refine ⟨_, rfl, 1, rfl, ?_⟩
      dsimp only [tNoPart]
      refine sl_from (S := []) (i := 1) ((dvG.up OffS.all).up offs_nil) olds_nil fun y G1 sG1 dy => ?_
      have dy := dy.up OffS.all
      rw [List.drop_one, List.tail_cons] at dy
      cases dy with
      | @tup cc vs2 _ hc hus =>
      have lus := hus.length
      have erG1 := sG1 _ _ erG
      have so1 : Same (OffS [rd] G) (OffS [rd] G1) := OffS.same sG1
      refine ⟨cc, rfl, ⟨_, SqT.of hc⟩, fun D nD => ?_⟩
      have nrD : rd ≠ D := ne_of_none erG1 nD
      have ncD : cc ≠ D := ne_of_none hc nD
      have ncr : cc ≠ rd := fun z => by
        rw [z, erG1] at hc
        cases hc
      refine lc_tup (K := K) (a := cc) (xs := vs2) (fun j H6 => ButL [rd, D] G1 H6 ∧ H6 rd = some (.lst (ra ++ (zs.drop j).reverse)) ∧ H6 D = some (.lst (zs.take j)))
        ⟨ButL.of (same_put nD), by rw [upd_ne nrD, List.drop_zero]; exact erG1, by rw [upd_same]; rfl⟩ (fun j H6 _ h => SqT.of (h.1.at hc (by simp [ncr, ncD]))) ?_ ?_
      · rintro j y H6 hj ⟨bt, e6, eD⟩
        have ltj : j < zs.length := by
          rw [lzs, ← lus]
          exact (List.getElem?_eq_some_iff.mp hj).1
        have e6' : H6 rd = some (.lst (ra ++ (zs.drop (j + 1)).reverse ++ [zs[j]])) := by
          rw [e6, drop_at (at_of ltj), List.reverse_cons, ← List.append_assoc]
        refine ⟨rfl, (iteT (B := False) ?_ : if true = true then _ else False)⟩
        refine ⟨_, rfl, .inl ⟨rfl, _, .inl (.inl e6')⟩, rd, _, zs[j], rfl, rfl, e6', by simp, ?_⟩
        rw [List.dropLast_concat]
        refine ⟨_, by rw [upd_ne nrD.symm]; exact eD, ?_, ?_, ?_, ?_⟩
        · rw [List.length_take]
          exact small1000 (by omega)
        · exact (bt.put (by simp)).put (by simp)
        · rw [upd_ne nrD, upd_same]
        · rw [upd_same, List.take_add_one, at_of ltj]
          rfl
      · rintro H6 ⟨bt, e6, eD⟩
        rw [lus, ← lzs, List.drop_length, List.reverse_nil, List.append_nil] at e6
        rw [lus, ← lzs, List.take_length] at eD
        have nD0 : H4 D = none := by
          cases z : H4 D with
          | none => rfl
          | some ob =>
            rw [sG1 _ _ (bG.at z (by simp [nrD.symm]))] at nD
            cases nD
        have nbr : b ≠ rd := fun z => by
          rw [z, erG] at hbG
          cases hbG
        have hb6 := bt.at (sG1 _ _ hbG) (by simp [nbr, ne_of_none (sG1 _ _ hbG) nD])
        have so6 : Same (OffS [rd] G1) (OffS [rd] H6) := offs_but bt (fun b h1 h2 => by
          rcases List.mem_cons.mp h1 with z | h1
          · exact absurd (by rw [z]; exact List.mem_singleton_self _) h2
          · rw [List.mem_singleton.mp h1]; exact nD)
        have b6 : ButL [rd, D] H4 H6 := (bG.weak (by simp)).trans ((ButL.of sG1).trans bt)
        have s6 : Same H H6 := ButL.same s4 (fun z hz => by
          rcases List.mem_cons.mp hz with e | hz
          · rw [e]; exact nrd0
          · rw [List.mem_singleton.mp hz]; exact s4.free nD0) b6
        have ha6 := rd_up s6 ha
        have dra6 := dra.up (so1.trans so6)
        have dzs6 := dzs.up (so1.trans so6)
        refine ⟨_, rfl, .inl ⟨rfl, _, .inl (.inl e6)⟩, _, rfl, a, rfl, .inl ⟨_, ha6⟩, _, rfl, b, _, 0, _, rfl, rfl, SqT.of hb6, atI_nat (j := 0) rfl, _, rfl, b, _, 0, _, rfl, rfl, SqT.of hb6, atI_nat (j := 0) rfl, _, .inl ⟨strD m, Sum.inr nm, ha6, rfl, rfl⟩, _, rfl, D, _, rfl, .inr (.inl (.inl eD)), ?_, fun q1 nq => ?_⟩
        · simp only [List.append_nil, List.length_cons]
          exact Nat.le_of_lt (small1000 (by omega))
        · rw [val_strD, look_getD, List.append_nil] at *
          have sq := same_put (o := .tup (V.str (nmOf m nm) :: zs)) nq
          have e7 := sq _ _ e6
          have nqr : q1 ≠ rd := fun z => by
            rw [z, e6] at nq
            cases nq
          refine ⟨rd, ra, _, rfl, rfl, e7, big5 (by omega), ?_⟩
          have so7 : Same (OffS [rd] (upd H6 q1 (.tup (V.str (nmOf m nm) :: zs)))) (OffS [rd] (upd (upd H6 q1 (.tup (V.str (nmOf m nm) :: zs))) rd (.lst (ra ++ [.ref q1])))) := offs_but (ButL.put ButL.refl (List.mem_singleton_self _)) (fun b h1 h2 => absurd h1 h2)
          refine ⟨⟨_, _, _, rfl⟩, fun bb ob hh nn => ?_, _, upd_same, ?_⟩
          · rw [upd_ne (fun z => nn (by rw [z]; exact List.mem_singleton_self _))]
            exact sq _ _ (b6 bb ob hh (by
              intro z
              rcases List.mem_cons.mp z with z | z
              · exact nn (by rw [z]; exact List.mem_singleton_self _)
              · rw [List.mem_singleton.mp z, nD0] at hh
                cases hh))
          · rw [List.map_cons, List.reverse_cons]
            refine DxAll.append (dra6.up ((OffS.same sq).trans so7)) (.cons ?_ .nil)
            rw [show renD (nmOf m) (.tuple (.str nm :: es)) = .tuple (.str (nmOf m nm) :: es.map (renD (nmOf m))) by rw [renD, renAll_map]]
            exact (Dx.tup (OffS.out (by simp [nqr]) upd_same) (.cons (.str _) (dzs6.up (OffS.same sq)))).up so7
    · rintro σ G ⟨⟨y3, y4, y5, rfl⟩, bG, rs, erG, drs⟩
      rw [show us.length - us.reverse.length = 0 by rw [List.length_reverse]; omega] at drs
      cases drs with
      | @cons v _ _ _ dv drs =>
      cases drs
      exact ⟨_, rfl, rd, _, 0, v, rfl, rfl, .inl (.inl erG), atI_nat (j := 0) rfl, q v G (ButL.same s4 one bG) (dv.up OffS.all)⟩
end
end K03
/-! {elt for target in iter}, elt a text or an int; its length. -/
namespace Kx
open PySem PySem.Spec PyProof.Rows L2 PpSet
section
variable {X : Cx}
/-- what a turn leaves: Nx the heap behind it -/
abbrev TurnK (P : Program) (w : World) (D : Addr) (te : TE) (σ : L2.St) (H : Hp) (Nx : Hp → Prop) : Prop :=
  te σ H fun y G => ∃ (c : Key) (S : Key → Bool) (n : Nat), y = kV c ∧ G D = some (L2.SetK P w D S n) ∧ n + 1 < scanBound ∧ Nx (upd G D (L2.SetK P w D (fun j => S j || decide (j = c)) (if S c = true then n else n + 1)))
def tScK (P : Program) (w : World) (wi : TI) (g : TG) (tt : TT) (te : TE) (vs : List Nat) : TE := fun σ H Q => wi σ H fun J H1 => ∀ D, H1 D = none →
  ∃ W : Nat → Nat → Hp → Prop, (∃ m, W 0 m (upd H1 D (L2.SetK P w D (fun _ => false) 0))) ∧ ∀ i m G, W i m G → (J.stop i G ∧ Q (.ref D) G) ∨
    (J.go i G ∧ ∃ Nx : Hp → Prop, (∀ G', Nx G' → ∃ m', m' < m ∧ W (i + 1) m' G') ∧ ∀ x G', J.yld i G x G' → g x (wipe σ vs) G' fun σ2 G2 => wipe σ2 vs = wipe σ vs ∧ tt σ2 G2 fun b G3 => if b = true then TurnK P w D te σ2 G3 Nx else Nx G3)
theorem emptyK {P : Program} {w : World} {h : Heap} : (h.push { cls := .type "set", dict := none, data := .set #[] 0 (.fresh 0 0 (!w.params.followText "set-order")) }).SetOf (mixKind P w) h.objs.size (fun _ => false) 0 :=
  ⟨_, #[], 0, _, Heap.get?_push_size _ rfl, ⟨rfl, rfl, rfl⟩, rfl, (fun e he => by simp at he), (fun k => by simp), (by decide), (by rfl), rfl⟩
theorem pe_scK {elt tg iter : Expr} {ifs : List Expr} {scope : Scope} {own : List (PySem.Str × Nat)} {pos : Pos} {wi : TI} {g : TG} {tt : TT} {te : TE} (hc : X.calm = true) (hN : X.N.Nodup) (hi : PI X tg iter wi) (ok : BlkOk X.N X.env.scope scope own)
    (hg : ∀ (s : Shared) (H : Hp) (C : Addr) (cl : List (PySem.Str × Addr)) (fp : List Addr), PG (X.blk s H scope (compEnvC scope cl C X.env) fp) tg g)
    (ht : ∀ (s : Shared) (H : Hp) (C : Addr) (cl : List (PySem.Str × Addr)) (fp : List Addr), PTs (X.blk s H scope (compEnvC scope cl C X.env) fp) ifs tt)
    (he : ∀ (s : Shared) (H : Hp) (C : Addr) (cl : List (PySem.Str × Addr)) (fp : List Addr), PE (X.blk s H scope (compEnvC scope cl C X.env) fp) elt te) (hs : ∀ x, foldedSetIterable iter X.env x = pure x := by intro _; rfl) :
    PE X (.SetComp elt [⟨tg, iter, ifs, 0⟩] scope pos) (tScK X.prog X.w wi g tt te (own.map (·.2))) := by
  refine ⟨fun pins s σ H Q I hQ => ?_⟩
  have cells : ∀ y ∈ scope.names, y.2 = .free → ∃ c, X.env.cells.lookup y.1 = some c := fun y hy e =>
    (ok.free y hy e).elim (fun z => I.ok.has _ (.inl z)) (fun z => I.ok.has _ (.inr z))
  rw [eval_SetComp]
  refine wpAny_comprehension_free (use := none) rfl hs (closure_ok cells) ok.kind (fun y hy e => by rw [ok.uniq y hy, e]) (thn (hi.run pins s σ H _ I hQ) fun xv sa ha => thn ha fun itv sb hb => ?_)
  obtain ⟨it, fp, tn, J, Hb, rfl, Ib, T, stb, fb, qb⟩ := hb
  refine newSet_ok (newEnv_comp ?_)
  obtain ⟨D, eD⟩ : ∃ D, D = sb.heap.objs.size := ⟨_, rfl⟩
  have nD : Hb D = none := Ib.hok.fresh (by rw [eD]; exact Nat.le_refl _)
  obtain ⟨W, ⟨m0, w0⟩, turns⟩ := qb D nD
  obtain ⟨sc, esc⟩ : ∃ sc : Shared, sc = { sb with heap := sb.heap.push { cls := .type "set", dict := none, data := .set #[] 0 (.fresh 0 0 (!X.w.params.followText "set-order")) } } := ⟨_, rfl⟩
  have hsc : sc.heap = sb.heap.push { cls := .type "set", dict := none, data := .set #[] 0 (.fresh 0 0 (!X.w.params.followText "set-order")) } := by rw [esc]
  have Ic : Inv X pins σ (upd Hb D (L2.SetK X.prog X.w D (fun _ => false) 0)) sc := by
    subst esc eD
    exact Ib.laid (t' := sb.toks) (fun b o e => Heap.get?_push_of_some _ e) (Nat.le_refl _) (L2.setK_new emptyK)
  have old : ∀ b ∈ fp, b < sb.heap.objs.size := fun b hb => by
    obtain ⟨o, e, _⟩ := T.obj _ _ stb b hb
    exact Heap.lt_size e
  have fc : ∀ b ∈ fp, FpOk X pins (upd Hb D (L2.SetK X.prog X.w D (fun _ => false) 0)) b ∧ b < sc.heap.objs.size := fun b hb => by
    have lt := old b hb
    refine ⟨⟨?_, (fb b hb).2⟩, by rw [hsc, Heap.size_push]; exact Nat.lt_succ_of_lt lt⟩
    rw [upd_ne (show b ≠ D by rw [eD]; exact Nat.ne_of_lt lt)]
    exact (fb b hb).1
  have stc : tn 0 sc.heap := T.keep _ _ _ stb fun b _ o e => by
    rw [hsc]
    exact Heap.get?_push_of_some _ e
  obtain ⟨Hc, eHc⟩ : ∃ Hc, Hc = upd Hb D (L2.SetK X.prog X.w D (fun _ => false) 0) := ⟨_, rfl⟩
  rw [← eHc] at Ic fc w0
  obtain ⟨cl, ecl⟩ : ∃ cl, cl = cellsFrom (sc.heap.objs.size + 1) scope.names (cloFrom X.env.cells scope.names []) := ⟨_, rfl⟩
  have Id := block_start Ic ok hN fc
  have pg := hg sc Hc sc.heap.objs.size cl fp
  have pt := ht sc Hc sc.heap.objs.size cl fp
  have pe := he sc Hc sc.heap.objs.size cl fp
  have goal : codeAny (model X.prog X.w) X.A (.compStart (.SetComp elt [⟨tg, iter, ifs, 0⟩] scope pos) 0 (.ref it) (.ref D) (compEnvC scope cl sc.heap.objs.size X.env)) (compPost (model X.prog X.w) X.A X.xe none (EP X pins σ Q) (.ref D) sc.heap.objs.size)
      { sc with heap := pushCells (sc.heap.push { cls := .type "dict", data := .dict #[] }) scope.names } := by
    rw [← ecl] at Id
    obtain ⟨ce, ece⟩ : ∃ ce, ce = compEnvC scope cl sc.heap.objs.size X.env := ⟨_, rfl⟩
    rw [← ece] at Id pg pt pe ⊢
    have loc : ce.locals = sc.heap.objs.size := by rw [ece]; rfl
    obtain ⟨sd, esd⟩ : ∃ sd : Shared, sd = { sc with heap := pushCells (sc.heap.push { cls := .type "dict", data := .dict #[] }) scope.names } := ⟨_, rfl⟩
    rw [← esd] at Id ⊢
    have std : tn 0 sd.heap := T.keep _ _ _ stc fun b _ o e => by
      rw [esd]
      exact pushCells_keeps _ _ _ _ (Heap.get?_push_of_some _ e)
    have inB : ∀ {τ : L2.St} {G : Hp} {z : Shared}, Inv (X.blk sc Hc scope ce fp) [] τ G z → (∀ b ∈ fp, G b = none) → ∀ b ∈ fp, FpOk (X.blk sc Hc scope ce fp) [] G b := fun {τ G z} I' hn b hb =>
      ⟨hn b hb, (I'.ok.exf b hb).1, I'.ok.exfs b hb, .inl hb, fun x c e => (I'.ok.exf b hb).2 x c e, fun p hp => absurd (show p ∈ ([] : List (Addr × Obj)) ++ [] from hp) (by simp)⟩
    have main : codeAny (model X.prog X.w) X.A (.compLoop (.SetComp elt [⟨tg, iter, ifs, 0⟩] scope pos) 0 (.ref it) (.ref D) ce) (compPost (model X.prog X.w) X.A X.xe none (EP X pins σ Q) (.ref D) sc.heap.objs.size) sd := by
      refine compLoopS_any (fun n z => ∃ i G, Inv (X.blk sc Hc scope ce fp) [] (wipe σ (own.map (·.2))) G z ∧ tn i z.heap ∧ (∀ b ∈ fp, G b = none) ∧ W i n G) ?_ m0 ⟨0, Hc, Id, std, fun b hb => (fc b hb).1.1, w0⟩
      rintro n z ⟨i, G, IG, stG, nG, wG⟩
      rcases turns i n G wG with ⟨stop, qq⟩ | ⟨go, Nx, hNx, step⟩
      · refine thnF (T.done (X.blk sc Hc scope ce fp) rfl rfl rfl hc i [] z _ G (fun _ _ => False) IG (inB IG nG) stG stop) fun r z2 ⟨hr, I2⟩ => ?_
        subst hr
        have I3 : Inv X pins σ G z2 := Ic.call' (ch := fp) I2.os I2.base I2.hok I2.bare fun b hb => ⟨(fc b hb).1.2.2.2.1, (fc b hb).1.2.1, (fc b hb).1.2.2.2.2.1, (fc b hb).1.2.2.2.2.2⟩
        have nC : G sc.heap.objs.size = none := by
          have z : G ce.locals = none := I2.free
          rwa [loc] at z
        obtain ⟨mm, hm, _⟩ := I2.loc
        have hm : z2.heap.Ns ce.locals mm := hm
        rw [loc] at hm
        refine ⟨mm, hm, fun h'' up => ?_⟩
        obtain ⟨f0, f1, f2, f3, f4, f5⟩ := Ic.fpOk (Nat.le_refl _) nC
        exact ⟨.ref D, G, I3.turned (t' := z2.toks) (fun b o hb e => (up.2 b hb).trans e) f0 f1 f3 f4 f5, rfl, qq⟩
      · refine thnF (T.item (X.blk sc Hc scope ce fp) rfl rfl rfl hc i [] z _ G (fun _ _ => False) IG (inB IG nG) stG go) fun r z2 ⟨u, hr, h2⟩ => ?_
        subst hr
        refine thnF h2 fun _ z3 ⟨x, G3, I3, r3, y3, st3, n3⟩ => ?_
        refine thnF (pg.run _ z3 _ G3 x u _ (I3.pinned (inB I3 n3) (T.obj _ _ st3)) r3 (step x G3 y3)) fun _ z4 ⟨σ4, G4, I4, hw, q4⟩ => ?_
        refine thnF (pt.run _ z4 σ4 G4 _ I4 q4) fun b z5 ⟨G5, I5, q5⟩ => ?_
        have back : ∀ {z' : Shared} {G' : Hp}, Inv (X.blk sc Hc scope ce fp) ([] ++ pinsAt fp z3.heap) σ4 G' z' → Nx G' → ∃ m, m < n ∧ ∃ i G, Inv (X.blk sc Hc scope ce fp) [] (wipe σ (own.map (·.2))) G z' ∧ tn i z'.heap ∧ (∀ b ∈ fp, G b = none) ∧ W i m G := fun {z' G'} I' nx => by
          obtain ⟨m', lt, w'⟩ := hNx G' nx
          have at' : ∀ b ∈ fp, ∀ o, z3.heap.get? b = some o → z'.heap.get? b = some o ∧ G' b = none := fun b hb o e =>
            have p := I'.pin (b, o) (List.mem_append_right _ (List.mem_append_right _ (mem_pinsAt hb e)))
            ⟨p.1, p.2.1⟩
          refine ⟨m', lt, i + 1, G', (I'.unpinned (pins := [])).weak (by rw [← hw, wipe_length]) (fun j v e => ?_), T.keep _ _ _ st3 fun b hb o e => (at' b hb o e).1, fun b hb => ?_, w'⟩
          · rw [← hw] at e
            exact (wipe_some e).1
          · obtain ⟨o, e, _⟩ := T.obj _ _ st3 b hb
            exact (at' b hb o e).2
        by_cases eb : b = true
        · subst eb
          simp only [if_true] at q5 ⊢
          refine thnF (pe.run _ z5 σ4 G5 _ I5 q5) fun v z6 ⟨yv, G6, I6, r6, c, S, k, ey, h6, room, nx⟩ => ?_
          subst ey
          exact thnF (mt_saddK (X := X.blk sc Hc scope ce fp) _ z6 σ4 G6 (.ref D) [kV c] (.ref D) [v] (fun _ G' => Nx G') I6 rfl (.cons r6 .nil) ⟨D, c, S, k, rfl, rfl, h6, room, nx⟩) fun _ z7 ⟨_, G7, I7, _, nx7⟩ => back I7 nx7
        · have eb' : b = false := by simpa using eb
          subst eb'
          simp only [Bool.false_eq_true, if_false] at q5 ⊢
          exact back I5 q5
    exact codeAny_compStart_set main (T.self X.A 0 _ _ _ std main)
  rw [ecl] at goal
  subst esc eD
  exact goal
end
end Kx
namespace Kx
open PySem PySem.Spec PyProof.Rows L2 PpSet
section
variable {X : Cx}
def rLenSK (P : Program) (w : World) : List V → Hp → VK → Prop := fun xs H Q => ∃ (a : Addr) (S : Key → Bool) (n : Nat), xs = [.ref a] ∧ H a = some (L2.SetK P w a S n) ∧ Q (.int (n : Nat)) H
theorem call_lenSK : CallR X (.builtin "len") (rLenSK X.prog X.w) := by
  intro pins s σ H xs us Q I rv h
  obtain ⟨a, S, n, rfl, ha, q⟩ := h
  obtain ⟨u, rfl, ru⟩ := rv.one
  cases ru
  obtain ⟨o, es, ep, t, ho, hex, hd, _, _, few, hf, hn⟩ := L2.setK_get I ha
  have e4 : scanBound = 4096 := rfl
  exact call_len_set ho hex hd hf (by omega) ⟨.int (n : Nat), H, I.tok _, ⟨_, by rw [hn]⟩, q⟩
end
/-- a set comprehension over the keys of a locked dict -/
theorem sck_keys {P : Program} {w : World} {d : Addr} {o : Obj} {kvs : List (Key × V)} {g : TG} {tt : TT} {te : TE} {vs : List Nat} {σ : L2.St} {H1 : Hp} {D : Addr} {Qd : Hp → Prop} (Pv : Nat → Hp → Prop) (h0 : Pv 0 (upd H1 D (L2.SetK P w D (fun _ => false) 0)))
    (hl : ∀ i H, Pv i H → H d = some (.frz o (.dK kvs))) (hs : ∀ (i : Nat) k v H, kvs[i]? = some (k, v) → Pv i H → g (kV k) (wipe σ vs) H fun σ2 H2 => wipe σ2 vs = wipe σ vs ∧ tt σ2 H2 fun b H3 => if b = true then TurnK P w D te σ2 H3 (Pv (i + 1)) else Pv (i + 1) H3)
    (hd : ∀ H, Pv kvs.length H → Qd H) : ∃ W : Nat → Nat → Hp → Prop, (∃ m, W 0 m (upd H1 D (L2.SetK P w D (fun _ => false) 0))) ∧ ∀ i m G, W i m G → ((Itk d o kvs).stop i G ∧ Qd G) ∨
    ((Itk d o kvs).go i G ∧ ∃ Nx : Hp → Prop, (∀ G', Nx G' → ∃ m', m' < m ∧ W (i + 1) m' G') ∧ ∀ x G', (Itk d o kvs).yld i G x G' → g x (wipe σ vs) G' fun σ2 G2 => wipe σ2 vs = wipe σ vs ∧ tt σ2 G2 fun b G3 => if b = true then TurnK P w D te σ2 G3 Nx else Nx G3) := by
  refine ⟨fun i m H => m = kvs.length - i ∧ i ≤ kvs.length ∧ Pv i H, ⟨_, rfl, Nat.zero_le _, h0⟩, ?_⟩
  rintro i m G ⟨rfl, le, p⟩
  have f := hl i G p
  by_cases lt : i < kvs.length
  · refine .inr ⟨⟨f, lt⟩, Pv (i + 1), fun G' p' => ⟨kvs.length - (i + 1), by omega, rfl, lt, p'⟩, fun x G' ⟨e, k, v, hk, ex⟩ => ?_⟩
    subst e ex
    exact hs i k v _ hk p
  · have e : i = kvs.length := by omega
    subst e
    exact .inl ⟨⟨f, Nat.le_refl _⟩, hd G p⟩
/-- a list comprehension over the keys of a locked dict -/
theorem lc_keys {d : Addr} {o : Obj} {kvs : List (Key × V)} {g : TG} {tt : TT} {te : TE} {vs : List Nat} {σ : L2.St} {H1 : Hp} {D : Addr} {Qd : Hp → Prop} (Pv : Nat → Hp → Prop) (h0 : Pv 0 (upd H1 D (.lst [])))
    (hl : ∀ i H, Pv i H → H d = some (.frz o (.dK kvs))) (hs : ∀ (i : Nat) k v H, kvs[i]? = some (k, v) → Pv i H → g (kV k) (wipe σ vs) H fun σ2 H2 => wipe σ2 vs = wipe σ vs ∧ tt σ2 H2 fun b H3 =>
      if b = true then te σ2 H3 fun y H4 => ∃ acc, H4 D = some (.lst acc) ∧ acc.length < sizeLine ∧ Pv (i + 1) (upd H4 D (.lst (acc ++ [y]))) else Pv (i + 1) H3)
    (hd : ∀ H, Pv kvs.length H → Qd H) : ∃ W : Nat → Nat → Hp → Prop, (∃ m, W 0 m (upd H1 D (.lst []))) ∧ ∀ i m G, W i m G → ((Itk d o kvs).stop i G ∧ Qd G) ∨
    ((Itk d o kvs).go i G ∧ ∃ Nx : Hp → Prop, (∀ G', Nx G' → ∃ m', m' < m ∧ W (i + 1) m' G') ∧ ∀ x G', (Itk d o kvs).yld i G x G' → g x (wipe σ vs) G' fun σ2 G2 => wipe σ2 vs = wipe σ vs ∧ tt σ2 G2 fun b G3 =>
      if b = true then te σ2 G3 fun y G4 => ∃ acc, G4 D = some (.lst acc) ∧ acc.length < sizeLine ∧ Nx (upd G4 D (.lst (acc ++ [y]))) else Nx G3) := by
  refine ⟨fun i m H => m = kvs.length - i ∧ i ≤ kvs.length ∧ Pv i H, ⟨_, rfl, Nat.zero_le _, h0⟩, ?_⟩
  rintro i m G ⟨rfl, le, p⟩
  have f := hl i G p
  by_cases lt : i < kvs.length
  · refine .inr ⟨⟨f, lt⟩, Pv (i + 1), fun G' p' => ⟨kvs.length - (i + 1), by omega, rfl, lt, p'⟩, fun x G' ⟨e, k, v, hk, ex⟩ => ?_⟩
    subst e ex
    exact hs i k v _ hk p
  · have e : i = kvs.length := by omega
    subst e
    exact .inl ⟨⟨f, Nat.le_refl _⟩, hd G p⟩
end Kx
/-! Defs with str.replace; defs that raise. -/
namespace Kx
open PySem PySem.Spec PyProof.Rows L2 CwR
section
variable {X : Cx} {o e : Expr} {to te : TE} {pos : Pos}
theorem pst_set {i : Nat} {x : Str} {pos' : Pos} (hN : X.N.Nodup) (hi : X.N[i]? = some x) (hx : Loc X.env.scope x) (he : PET X e te) (hs : swapsWith e (some (.Name x pos')) pos.line X.env = pure false := by rfl) (hf : X.fn x = true ∨ X.env.scope.names.lookup x = some .local := by first | exact .inl rfl | exact .inr rfl | assumption) :
    PST X (.Assign [.Name x pos'] e pos) (tAsg te (gName i)) := by
  intro pins s σ H D h0 I h
  refine wpAny_Assign_Name (thn (he pins s σ H _ h0 I h) fun v s1 ⟨y, H1, I1, r1, q1⟩ => ?_) hs
  exact store_ok I1 hN hi hx r1 (fun s2 I2 => ⟨_, H1, I2, q1⟩) hf
theorem pet_m0 {id : String} {name : Str} {apos pos : Pos} {r : V → List V → Hp → VK → Prop} (slot : Slot "str" name id) (ty : typeOf (.builtin id) = pure (.type "method_descriptor")) (rule : MtR X id r) (ho : PET X o to)
    (hbase : attributeBase o name X.env (eval o X.env) = eval o X.env := by rfl) (hline : (apos.endLine == pos.line) = true := by rfl) : PET X (.Call (.Attribute o name apos) [] [] pos) (tM0 r to) := by
  intro pins s σ H Q h0 I h
  refine PySem.Call_method0 hbase hline (thn (ho pins s σ H _ h0 I h) fun v s1 ⟨x, H1, I1, r1, q1⟩ => ?_)
  obtain ⟨⟨a, rfl⟩, q1⟩ := q1
  obtain ⟨t, rfl⟩ := _root_.id r1
  exact ⟨"str", _, F.plainAttrs_str, slot, ty, typeIs_str _ _ _, (fun _ e => nomatch e), Calls.callWith_builtin rfl (PySem.evalArgs_none (rule pins s1 σ H1 _ [] _ [] Q I1 r1 .nil q1))⟩
theorem pet_words {apos pos : Pos} (ho : PET X o to) (hbase : attributeBase o "split" X.env (eval o X.env) = eval o X.env := by rfl) (hline : (apos.endLine == pos.line) = true := by rfl) :
    PET X (.Call (.Attribute o "split" apos) [] [] pos) (tM0 (fun x xs H Q => ∃ a, x = .str a ∧ xs = [] ∧ a.length + 2 ≤ sizeLine ∧ rNewStrs (Txt.words a) H Q) to) :=
  pet_m0 F.slot_str_split F.type_str_split mt_words ho hbase hline
end
section
variable {P : Program} {w : World} {K : PySem.W.Frag} {mg : Str → Option Value} {base : Heap}
/-- a def in which a token is out from the beginning on (it has a parameter) -/
theorem okT {x qual : Str} {st : Stmt} {f : Addr} {fd : FuncData} {N ps : List Str} {k : Nat} {sp : Sp} (F : Fun K x qual st f fd) (S : FnScope N ps (defScope st)) (hnc : ∀ y ∈ (defScope st).names, y.2 ≠ .cell) (hps : 1 ≤ ps.length) (len : ∀ vs H Q E, sp vs H Q E → vs.length = ps.length)
    (hbody : ∀ (cdv : Value) (A : Around) (outer : List Env) (s : Shared) (H : Hp) (vs : List V) (Q : VK) (E : XK), Room k (A.deeper (envOfC qual (defScope st) s.heap.objs.size f cdv)) → sp vs H Q E →
      ∃ t, PSsT (cxOf CX0 P w K mg base N qual (defScope st) f cdv A outer s H E) (defBody st) t ∧ t { nx := fun _ H' => Q .non H', rt := Q } (start N vs) H) : FnOk P w K mg base CX0 (k + 1) f fd ps sp := by
  obtain ⟨oc, od, kV, doc, pm, an, cdv, ct, osl, rfl, lk, hcd⟩ := F.ex
  exact fn_ofT lk hcd S hnc hps len fun A outer s H vs Q E hr h => hbody cdv A outer s H vs Q E hr h
theorem exm_self {S : Addr} (h1 : PySem.W.subIn K (.ref S) (.type "BaseException") = some true) (h2 : PySem.W.isClsIn K S = true) (h3 : PySem.W.typeIn K (.ref S) = some (.type "type")) (h4 : PySem.W.subIn K (.ref S) (.ref S) = some true) :
    PySem.W.exmOne K (.ref S) (.ref S) = some true := by
  have e1 : (PySem.W.subIn K (.ref S) (.type "BaseException") == some true) = true := by rw [h1] <;> rfl
  have e2 : ((PySem.W.clsIn K S).isSome && PySem.W.typeIn K (.ref S) == some (.type "type")) = true := by
    have h2' : (PySem.W.clsIn K S).isSome = true := h2
    rw [h2', h3] <;> rfl
  show (if (PySem.W.subIn K (.ref S) (.type "BaseException") == some true) = true then (if ((PySem.W.clsIn K S).isSome && PySem.W.typeIn K (.ref S) == some (.type "type")) = true then PySem.W.subIn K (.ref S) (.ref S) else none) else none) = some true
  rw [if_pos e1, if_pos e2]
  exact h4
end
end Kx
/-! check_term, check_renaming: what they raise. -/
namespace K03
open PySem PySem.Spec PyProof.Rows L2 Kx
/-- a list of texts that holds the same as l, each once -/
theorem once_len : ∀ (l L : List Str), L.Nodup → (∀ z, z ∈ L ↔ z ∈ l) → L.length ≤ l.length ∧ (L.length = l.length ↔ l.Nodup)
  | [], L, _, h => by
    have : L = [] := List.eq_nil_iff_forall_not_mem.mpr fun z hz => by simpa using (h z).mp hz
    subst this
    simp
  | a :: r, L, nd, h => by
    by_cases ar : a ∈ r
    · have e := once_len r L nd (fun z => by
        rw [h z, List.mem_cons]
        exact ⟨fun x => x.elim (fun e => by rw [e]; exact ar) id, .inr⟩)
      rw [List.length_cons]
      refine ⟨by omega, fun x => by omega, fun x => absurd ar (List.nodup_cons.mp x).1⟩
    · have aL : a ∈ L := (h a).mpr List.mem_cons_self
      have e := once_len r (L.erase a) (nd.erase a) (fun z => by
        rw [nd.mem_erase_iff, h z, List.mem_cons]
        constructor
        · rintro ⟨n, x | x⟩
          · exact absurd x n
          · exact x
        · exact fun x => ⟨fun y => ar (y ▸ x), .inr x⟩)
      rw [List.length_erase_of_mem aL] at e
      have pos : 0 < L.length := List.length_pos_of_mem aL
      rw [List.length_cons, List.nodup_cons]
      refine ⟨by omega, fun x => ⟨ar, e.2.mp (by omega)⟩, fun x => ?_⟩
      have := e.2.mpr x.2
      omega
section
variable {P : Program} {w : World} {K : PySem.W.Frag} {mg : Str → Option Value} {base : Heap}
def spCk (K : PySem.W.Frag) (C : Addr) : Sp := fun vs H Q E => ∃ (x : V) (d : PyData), vs = [x] ∧ Dz K H x d ∧ (termD d = true → ∀ H', Same H H' → Q .non H') ∧ (termD d = false → ∀ H', Same H H' → E (.ref C) none H')
theorem ok_ck (T : Tx K mg) : FnOk P w K mg base (L2.CX P w) 5 T.acheck_term T.dcheck_term ["value"] (spCk K T.CInvalidTerm) := by
  have nd := sc_check_term.nd
  have G := ok_term (P := P) (w := w) (base := base) T
  refine T.fcheck_term.okX sc_check_term (fun vs H Q E h => ?_) (fun cdv A outer s H vs Q E hr h => ?_)
  · obtain ⟨x, d, rfl, _⟩ := h
    rfl
  · obtain ⟨x, d, rfl, hx, q1, q0⟩ := h
    refine ⟨_, (pss_one (ps_if (pt_not (pt_val (pe_call G (hr.mono (by omega)) (by rfl) T.gis_term T.fis_term.kp T.nis_term .nil pass0 (pa_cons (pv 0) pa_nil)))) (pss_one (ps_raise rfl (takes_of rfl rfl rfl rfl) (pmk_own PySem.F.excBase_ValueError T.xInvalidTerm T.gInvalidTerm T.kInvalidTerm (raises_own T.bInvalidTerm T.tInvalidTerm) (by rfl)))) pss_nil)), ?_⟩
    refine ⟨_, rfl, x, d, rfl, hx, fun H' sm => ⟨_, rfl, ?_⟩⟩
    cases t : termD d with
    | false => exact iteT (q0 t H' sm)
    | true => exact iteF (q1 t H' sm)
theorem look_mem {x y : Str} : ∀ {m : List (Str × Str)}, (m.map Prod.fst).Nodup → (x, y) ∈ m → look m x = some y
  | p :: m, nd, h => by
    rw [List.map_cons, List.nodup_cons] at nd
    rcases List.mem_cons.mp h with e | h
    · rw [← e, look, List.find?_cons_of_pos (by simp)]
      rfl
    · have ne : p.1 ≠ x := fun z => nd.1 (by rw [z]; exact List.mem_map.mpr ⟨_, h, rfl⟩)
      rw [look, List.find?_cons_of_neg (by simp [ne])]
      exact look_mem nd.2 h
theorem unlocked {a : Addr} {H G : Hp} {u : HO} (b : ButL [a] H G) (h : H a = some u) : Same H (upd G a u) := fun c o e => by
  by_cases z : c = a
  · rw [z, h] at e
    rw [z, upd_same]
    exact e
  · rw [upd_ne z]
    exact b c o e (by simp [z])
/-- the names that ms has, changed by m, stay apart -/
def Apart (m : List (Str × Str)) (l : List Str) : Prop := (l.map (nmOf m)).Nodup
def spRn (K : PySem.W.Frag) (C : Addr) : Sp := fun vs H Q E => ∃ (p a : Addr) (ms : List NK) (m : List (Str × Str)), vs = [.ref p, .ref a] ∧ p ≠ a ∧ H p = some (.dK (dictOf ms)) ∧ H a = some (.dK (strD m)) ∧ (∀ x y, (x, y) ∈ m → isNm x = true ∧ isNm y = true) ∧ (m.map Prod.fst).Nodup ∧ m.length ≤ 1000 ∧ ms.length ≤ 1000 ∧
  (Apart m (ms.map Prod.fst) → ∀ H', Same H H' → Q .non H') ∧ (¬ Apart m (ms.map Prod.fst) → ∀ H', Same H H' → E (.ref C) none H')
theorem ok_rn (T : Tx K mg) : FnOk P w K mg base (L2.CX P w) 2 T.acheck_renaming T.dcheck_renaming ["places", "names"] (spRn K T.CInvalidOperation) := by
  have nd := sc_check_renaming.nd
  have G := ok_name (P := P) (w := w) (base := base) T
  refine T.fcheck_renaming.okX sc_check_renaming (fun vs H Q E h => ?_) (fun cdv A outer s H vs Q E hr h => ?_)
  · obtain ⟨p, a, ms, m, rfl, _⟩ := h
    rfl
  · obtain ⟨p, a, ms, m, rfl, npa, hp, ha, hm, ndm, lm, lms, q1, q0⟩ := h
    have hu := hu_of hr
    refine ⟨_, (pss_cons (ps_if (PW.pt (pw_or (pt_not (pt_val (pe_callB call_isi (by rfl) T.b_isinstance (by decide +kernel) (pa_cons (pv 1) (pa_cons (pe_bltn (v := .ty "dict") (by rfl) T.b_dict (by decide +kernel) rfl) pa_nil))))) (pw_or1 (pt_not (pt_val (pe_callB (cr_all rfl) (by rfl) T.b_all (by decide +kernel) (pa_cons (pe_lock (pe_lc (own := [("name", 2)]) (g := (gName 2)) (tt := tYes) (by rfl) nd (pi_keys (pv 1)) (blkOk_by (own := [("name", 2)]) (N := N_check_renaming) (sc := defScope s_check_renaming) (by decide +kernel)) (fun _ _ _ _ _ => pg_name (i := 2) nd rfl (.inl rfl)) (fun _ _ _ _ _ => pts_nil) (fun _ _ _ _ _ => (pe_and (pe_call G (hr.mono (by omega)) (by rfl) T.gis_name T.fis_name.kp T.nis_name .nil pass0 (pa_cons (pv 2) pa_nil)) (pe_one (pe_call G (hr.mono (by omega)) (by rfl) T.gis_name T.fis_name.kp T.nis_name .nil pass0 (pa_cons (pe_dget hu (pv 1) (pv 2) (fun _ _ => rfl)) pa_nil))))))) pa_nil))))))) (pss_one (ps_raise rfl (takes_of rfl rfl rfl rfl) (pmk_own PySem.F.excBase_ValueError T.xInvalidName T.gInvalidName T.kInvalidName (raises_own T.bInvalidName T.tInvalidName) (by rfl)))) pss_nil)
      (pss_one (ps_if (pt_cmpR op_lt (pe_callB call_lenSK (by rfl) T.b_len (by decide +kernel) (pa_cons (pe_lock (pe_scK (own := [("name", 2)]) (g := (gName 2)) (tt := tYes) (by rfl) nd (pi_keys (pv 0)) (blkOk_by (own := [("name", 2)]) (N := N_check_renaming) (sc := defScope s_check_renaming) (by decide +kernel)) (fun _ _ _ _ _ => pg_name (i := 2) nd rfl (.inl rfl)) (fun _ _ _ _ _ => pts_nil) (fun _ _ _ _ _ => (pe_dget2 hu (pv 1) (pv 2) (pv 2) ⟨by rfl, by rfl, by rfl, by rfl⟩)))) pa_nil)) (pe_callB call_lenD (by rfl) T.b_len (by decide +kernel) (pa_cons (pv 0) pa_nil)) (nomark _)) (pss_one (ps_raise rfl (takes_of rfl rfl rfl rfl) (pmk_own PySem.F.excBase_ValueError T.xInvalidOperation T.gInvalidOperation T.kInvalidOperation (raises_own T.bInvalidOperation T.tInvalidOperation) (by rfl)))) pss_nil))), ?_⟩
    refine ⟨_, rfl, _, .ty "dict", _, _, _, rfl, .ty _, .base (.dK ha), kit_ty (by decide +kernel : kitB "dict" "dict" = some true), _, rfl, iteF ?_⟩
    refine ⟨a, .dK (strD m), ha, trivial, fun od => ⟨_, rfl, a, od, rfl, .inl ⟨strD m, upd_same, fun D nD => ?_⟩⟩⟩
    have eaL : (upd H a (.frz od (.dK (strD m)))) a = some (.frz od (.dK (strD m))) := upd_same
    have bL : ButL [a] H (upd H a (.frz od (.dK (strD m)))) := ButL.refl.put (List.mem_singleton_self _)
    have epL : (upd H a (.frz od (.dK (strD m)))) p = some (.dK (dictOf ms)) := by rw [upd_ne npa]; exact hp
    generalize upd H a (.frz od (.dK (strD m))) = L at eaL bL epL nD ⊢
    have naD : a ≠ D := ne_of_none eaL nD
    refine lc_keys (fun i G => Same L G ∧ G D = some (.lst ((List.replicate i true).map V.bl))) ⟨same_put nD, upd_same⟩ (fun i G h => h.1 _ _ eaL) ?_ ?_
    · rintro i k v G hk ⟨sG, eD⟩
      rw [strD, List.getElem?_map] at hk
      obtain ⟨⟨x, y⟩, hxy, e⟩ := Option.map_eq_some_iff.mp hk
      cases e
      have mem := List.mem_of_getElem? hxy
      have lti : i < m.length := (List.getElem?_eq_some_iff.mp hxy).1
      obtain ⟨nx, ny⟩ := hm x y mem
      have short : ∀ {z : Str}, isNm z = true → z.length ≤ sizeLine := fun {z} h => by
        simp only [isNm, Bool.and_eq_true, decide_eq_true_eq] at h
        exact Nat.le_trans h.1.2 (by decide)
      refine ⟨rfl, (iteT (B := False) ?_ : if true = true then _ else False)⟩
      refine ⟨_, rfl, _, .str x, rfl, .str x, fun z e => by cases e; exact short nx, _, rfl, ?_⟩
      rw [show nameD (.str x) = true from nx]
      refine iteT ⟨_, rfl, _, rfl, a, .str y, rfl, .inl ⟨strD m, .inr x, .inr ⟨od, sG _ _ eaL⟩, rfl, ?_⟩, _, .str y, rfl, .str y, fun z e => by cases e; exact short ny, ?_⟩
      · rw [val_strD, look_mem ndm mem]
        rfl
      · refine ⟨_, eD, ?_, fun c o hc => ?_, ?_⟩
        · rw [List.length_map, List.length_replicate]
          exact small1000 (by omega)
        · rw [upd_ne (ne_of_none hc nD)]
          exact sG c o hc
        · rw [upd_same, show nameD (.str y) = true from ny, List.replicate_succ', List.map_append]
          rfl
    · rintro G ⟨sG, eD⟩
      refine ⟨sG _ _ eaL, ?_⟩
      have s1 : Same H (upd G a (.dK (strD m))) := unlocked (bL.trans (ButL.of sG)) ha
      have eD1 : (upd G a (.dK (strD m))) D = some (.lst ((List.replicate (strD m).length true).map V.bl)) := by
        rw [upd_ne naD.symm]
        exact eD
      generalize upd G a (.dK (strD m)) = H1 at s1 eD1 ⊢
      refine ⟨D, _, rfl, .inl (.inl eD1), _, rfl, ?_⟩
      rw [show (List.replicate (strD m).length true).all id = true by simp]
      refine iteF ?_
      -- the second test
      have hp1 := s1 _ _ hp
      have ha1 := s1 _ _ ha
      refine ⟨p, .dK (dictOf ms), hp1, trivial, fun od => ⟨_, rfl, p, od, rfl, .inl ⟨dictOf ms, upd_same, fun D2 nD2 => ?_⟩⟩⟩
      have epL : (upd H1 p (.frz od (.dK (dictOf ms)))) p = some (.frz od (.dK (dictOf ms))) := upd_same
      have bL2 : ButL [p] H1 (upd H1 p (.frz od (.dK (dictOf ms)))) := ButL.refl.put (List.mem_singleton_self _)
      have eaL2 : (upd H1 p (.frz od (.dK (dictOf ms)))) a = some (.dK (strD m)) := by rw [upd_ne npa.symm]; exact ha1
      generalize upd H1 p (.frz od (.dK (dictOf ms))) = L2' at epL bL2 eaL2 nD2 ⊢
      have npD : p ≠ D2 := ne_of_none epL nD2
      refine sck_keys (fun i G2 => Same L2' G2 ∧ ∃ (L : List Str) (S : Key → Bool), G2 D2 = some (L2.SetK P w D2 S L.length) ∧ L.Nodup ∧ (∀ k, S k = decide (∃ z, z ∈ L ∧ k = Sum.inr z)) ∧ L.length ≤ i ∧ ∀ z, z ∈ L ↔ z ∈ ((ms.take i).map Prod.fst).map (nmOf m))
        ⟨same_put nD2, [], fun _ => false, upd_same, List.nodup_nil, fun k => by simp, Nat.zero_le _, fun z => by simp⟩ (fun i G2 h => h.1 _ _ epL) ?_ ?_
      · rintro i k v G2 hk ⟨sG2, L, S, eD2, ndL, hS, lL, mL⟩
        rw [dictOf, List.getElem?_map] at hk
        obtain ⟨⟨x, n⟩, hxn, e⟩ := Option.map_eq_some_iff.mp hk
        cases e
        have lti : i < ms.length := (List.getElem?_eq_some_iff.mp hxn).1
        refine ⟨rfl, (iteT (B := False) ?_ : if true = true then _ else False)⟩
        refine ⟨_, rfl, a, rfl, .inl ⟨_, .inl (sG2 _ _ eaL2)⟩, _, rfl, _, rfl, _, .inl ⟨strD m, .inr x, .inl (sG2 _ _ eaL2), rfl, rfl⟩, .inr (nmOf m x), S, L.length, ?_, eD2, Nat.lt_of_le_of_lt (show L.length + 1 ≤ 1001 by omega) (by decide), fun c o hc => ?_, ?_⟩
        · rw [val_strD]
          exact look_getD m x
        · rw [upd_ne (ne_of_none hc nD2)]
          exact sG2 c o hc
        · have et : ((ms.take (i + 1)).map Prod.fst).map (nmOf m) = ((ms.take i).map Prod.fst).map (nmOf m) ++ [nmOf m x] := by
            rw [List.take_add_one, hxn]
            simp
          by_cases inL : nmOf m x ∈ L
          · have e1 : S (.inr (nmOf m x)) = true := by
              rw [hS]
              exact decide_eq_true ⟨_, inL, rfl⟩
            refine ⟨L, fun j => S j || decide (j = Sum.inr (nmOf m x)), by rw [upd_same, if_pos e1]; rfl, ndL, fun k => ?_, by omega, fun z => ?_⟩
            · show (S k || decide (k = Sum.inr (nmOf m x))) = _
              rw [hS]
              by_cases e : k = Sum.inr (nmOf m x)
              · rw [e]
                simp [inL]
              · simp [e]
            · rw [et, List.mem_append, ← mL, List.mem_singleton]
              exact ⟨.inl, fun h => h.elim id fun e => by rw [e]; exact inL⟩
          · have e1 : ¬ S (.inr (nmOf m x)) = true := by
              rw [hS]
              simp [inL]
            refine ⟨L ++ [nmOf m x], fun j => S j || decide (j = Sum.inr (nmOf m x)), by rw [upd_same, if_neg e1, List.length_append]; rfl, ?_, fun k => ?_, by rw [List.length_append, List.length_singleton]; omega, fun z => ?_⟩
            · rw [List.nodup_append]
              refine ⟨ndL, by simp, fun c hc b hb => ?_⟩
              rw [List.mem_singleton.mp hb]
              rintro rfl
              exact inL hc
            · show (S k || decide (k = Sum.inr (nmOf m x))) = _
              rw [hS, ← Bool.decide_or, decide_eq_decide]
              constructor
              · rintro (⟨z, h1, h2⟩ | h)
                · exact ⟨z, List.mem_append_left _ h1, h2⟩
                · exact ⟨_, by simp, h⟩
              · rintro ⟨z, h1, h2⟩
                rcases List.mem_append.mp h1 with h1 | h1
                · exact .inl ⟨z, h1, h2⟩
                · rw [List.mem_singleton.mp h1] at h2
                  exact .inr h2
            · rw [et, List.mem_append, List.mem_append, mL]
      · rintro G2 ⟨sG2, L, S, eD2, ndL, hS, lL, mL⟩
        refine ⟨sG2 _ _ epL, ?_⟩
        have s2 : Same H1 (upd G2 p (.dK (dictOf ms))) := unlocked (bL2.trans (ButL.of sG2)) hp1
        have eD3 : (upd G2 p (.dK (dictOf ms))) D2 = some (L2.SetK P w D2 S L.length) := by
          rw [upd_ne npD.symm]
          exact eD2
        generalize upd G2 p (.dK (dictOf ms)) = H2 at s2 eD3 ⊢
        have ld : (dictOf ms).length = ms.length := List.length_map ..
        rw [ld, List.take_length] at mL
        have fin := once_len ((ms.map Prod.fst).map (nmOf m)) L ndL mL
        rw [List.length_map, List.length_map] at fin
        refine ⟨D2, S, L.length, rfl, eD3, _, rfl, p, dictOf ms, rfl, s2 _ _ hp1, _, _, rfl, rfl, _, rfl, ?_⟩
        rw [ld]
        by_cases ap : Apart m (ms.map Prod.fst)
        · have e1 := fin.2.mpr ap
          rw [show decide ((L.length : Int) < (ms.length : Int)) = false from decide_eq_false (by omega)]
          exact iteF (q1 ap H2 (s1.trans s2))
        · have e1 : L.length ≠ ms.length := fun z => ap (fin.2.mp z)
          rw [show decide ((L.length : Int) < (ms.length : Int)) = true from decide_eq_true (by omega)]
          exact iteT (q0 ap H2 (s1.trans s2))
end
end K03
/-! replaced, renamed_by. -/
namespace K03
open PySem PySem.Spec PyProof.Rows L2 Kx
theorem nodup_map {α β : Type} {f : α → β} : ∀ {l : List α}, l.Nodup → ((l.map f).Nodup ↔ ∀ x, x ∈ l → ∀ y, y ∈ l → f x = f y → x = y)
  | [], _ => by simp
  | a :: l, nd => by
    rw [List.nodup_cons] at nd
    rw [List.map_cons, List.nodup_cons, nodup_map nd.2, List.mem_map]
    constructor
    · rintro ⟨h1, h2⟩ x hx y hy e
      rcases List.mem_cons.mp hx with hx | hx
      · rcases List.mem_cons.mp hy with hy | hy
        · rw [hx, hy]
        · exact absurd ⟨y, hy, by rw [← e, hx]⟩ h1
      · rcases List.mem_cons.mp hy with hy | hy
        · exact absurd ⟨x, hx, by rw [e, hy]⟩ h1
        · exact h2 x hx y hy e
    · intro h
      refine ⟨fun ⟨y, hy, e⟩ => nd.1 ?_, fun x hx y hy e => h x (List.mem_cons_of_mem _ hx) y (List.mem_cons_of_mem _ hy) e⟩
      rw [← h y (List.mem_cons_of_mem _ hy) a List.mem_cons_self e]
      exact hy
def namesD (d : PyData) : List Str := (rowsD d).map Prod.fst
/-- no two names of d become one -/
def Ap (m : List (Str × Str)) (d : PyData) : Prop := ∀ x, x ∈ namesD d → ∀ y, y ∈ namesD d → nmOf m x = nmOf m y → x = y
instance (m : List (Str × Str)) (d : PyData) : Decidable (Ap m d) := decidable_of_iff (∀ x ∈ namesD d, ∀ y ∈ namesD d, nmOf m x = nmOf m y → x = y) Iff.rfl
theorem apart_iff {m : List (Str × Str)} {d : PyData} {ms : List NK} (nd : (ms.map Prod.fst).Nodup) (mem : ∀ r, r ∈ ms ↔ r ∈ rowsD d) : Apart m (ms.map Prod.fst) ↔ Ap m d := by
  have e : ∀ x, x ∈ ms.map Prod.fst ↔ x ∈ namesD d := fun x => by
    rw [namesD, List.mem_map, List.mem_map]
    exact exists_congr fun r => by rw [mem r]
  unfold Apart Ap
  rw [nodup_map nd]
  constructor
  · exact fun h x hx y hy => h x ((e x).mpr hx) y ((e y).mpr hy)
  · exact fun h x hx y hy => h x ((e x).mp hx) y ((e y).mp hy)
theorem termD_formed {d : PyData} (h : termD d = true) : formedD d = true := by
  rw [termD, Bool.and_eq_true] at h
  exact h.1
mutual
theorem pre_sz : ∀ (d : PyData), formedD d = true → (preD d).length ≤ szD d
  | .tuple (x :: ds), h => by
    rw [formedD, Bool.and_eq_true] at h
    have := pre_szs ds h.2
    have := szD_pos x
    rw [preD, szD, szAll, List.length_cons]
    omega
  | .tuple [], h => by cases h
  | .none, h => by cases h
  | .bool _, h => by cases h
  | .int _, h => by cases h
  | .str _, h => by cases h
  | .list _, h => by cases h
  | .dict _, h => by cases h
theorem pre_szs : ∀ (ds : List PyData), formedAll ds = true → (preAll ds).length ≤ szAll ds
  | [], _ => Nat.le_refl _
  | d :: ds, h => by
    rw [formedAll, Bool.and_eq_true] at h
    have := pre_sz d h.1
    have := pre_szs ds h.2
    rw [preAll, szAll, List.length_append]
    omega
end
section
variable {P : Program} {w : World} {K : PySem.W.Frag} {mg : Str → Option Value} {base : Heap}
def spRep (K : PySem.W.Frag) (C : Addr) : Sp := fun vs H Q E => ∃ (x o n : V) (d e c : PyData), vs = [x, o, n] ∧ Dz K H x d ∧ Dz K H o e ∧ Dz K H n c ∧ termD d = true ∧ termD e = true ∧ termD c = true ∧ (preD d).length + (preD e).length ≤ 100000 ∧
  shortD (putD e c d) = true ∧ szD (putD e c d) ≤ 100000 ∧ (termD (putD e c d) = true → ∀ v H', Same H H' → Dx K H' v (putD e c d) → Q v H') ∧ (termD (putD e c d) = false → ∀ H', Same H H' → E (.ref C) none H')
theorem ok_rep (T : Tx K mg) : FnOk P w K mg base (L2.CX P w) 6 T.areplaced T.dreplaced ["term", "old", "new"] (spRep K T.CInvalidTerm) := by
  have nd := sc_replaced.nd
  have G := ok_ck (P := P) (w := w) (base := base) T
  have G2 := ok_put (P := P) (w := w) (base := base) T
  refine T.freplaced.okX sc_replaced (fun vs H Q E h => ?_) (fun cdv A outer s H vs Q E hr h => ?_)
  · obtain ⟨x, o, n, d, e, c, rfl, _⟩ := h
    rfl
  · obtain ⟨x, o, n, d, e, c, rfl, hx, ho, hn, td, te, tc, bd, sh, sz, q1, q0⟩ := h
    refine ⟨_, (pss_cons (ps_expr (pe_call G (hr.mono (by omega)) (by rfl) T.gcheck_term T.fcheck_term.kp T.ncheck_term .nil (passes_call (takes_of rfl rfl rfl rfl) (fun _ _ _ _ h => h)) (pa_cons (pv 0) pa_nil)))
      (pss_cons (ps_expr (pe_call G (hr.mono (by omega)) (by rfl) T.gcheck_term T.fcheck_term.kp T.ncheck_term .nil (passes_call (takes_of rfl rfl rfl rfl) (fun _ _ _ _ h => h)) (pa_cons (pv 1) pa_nil)))
      (pss_cons (ps_expr (pe_call G (hr.mono (by omega)) (by rfl) T.gcheck_term T.fcheck_term.kp T.ncheck_term .nil (passes_call (takes_of rfl rfl rfl rfl) (fun _ _ _ _ h => h)) (pa_cons (pv 2) pa_nil)))
      (pss_cons (ps_set (i := 3) nd rfl (.inl rfl) (pe_call G2 (hr.mono (by omega)) (by rfl) T.gput_in T.fput_in.kp T.nput_in .nil pass0 (pa_cons (pv 0) (pa_cons (pv 1) (pa_cons (pv 2) pa_nil)))))
      (pss_cons (ps_expr (pe_call G (hr.mono (by omega)) (by rfl) T.gcheck_term T.fcheck_term.kp T.ncheck_term .nil (passes_call (takes_of rfl rfl rfl rfl) (fun _ _ _ _ h => h)) (pa_cons (pv 3) pa_nil)))
      (pss_one (ps_ret (pv 3)))))))), ?_⟩
    refine ⟨_, rfl, x, d, rfl, hx, fun _ H1 s1 => ?_, fun z => by rw [td] at z; cases z⟩
    refine ⟨_, rfl, o, e, rfl, ho.up s1, fun _ H2 s2 => ?_, fun z => by rw [te] at z; cases z⟩
    have s12 := s1.trans s2
    refine ⟨_, rfl, n, c, rfl, hn.up s12, fun _ H3 s3 => ?_, fun z => by rw [tc] at z; cases z⟩
    have s13 := s12.trans s3
    refine ⟨_, rfl, _, rfl, _, rfl, x, o, n, d, e, c, rfl, hx.1.up s13, ho.1.up s13, hn.1.up s13, termD_formed td, termD_formed te, bd, fun v H4 s4 dv => ?_⟩
    refine ⟨_, rfl, v, putD e c d, rfl, ⟨dv, sh, sz⟩, fun t H5 s5 => ?_, fun t H5 s5 => q0 t H5 (s13.trans (s4.trans s5))⟩
    exact ⟨_, rfl, q1 t v H5 (s13.trans (s4.trans s5)) (dv.up s5)⟩
def spRb (K : PySem.W.Frag) (C : Addr) : Sp := fun vs H Q E => ∃ (x : V) (a : Addr) (d : PyData) (m : List (Str × Str)), vs = [x, .ref a] ∧ Dz K H x d ∧ termD d = true ∧ szD d ≤ 1000 ∧ H a = some (.dK (strD m)) ∧ (∀ x y, (x, y) ∈ m → isNm x = true ∧ isNm y = true) ∧ (m.map Prod.fst).Nodup ∧ m.length ≤ 1000 ∧
  (Ap m d → ∀ v H', Same H H' → Dx K H' v (renD (nmOf m) d) → Q v H') ∧ (¬ Ap m d → ∀ H', Same H H' → E (.ref C) none H')
theorem ok_rb (T : Tx K mg) : FnOk P w K mg base (L2.CX P w) 6 T.arenamed_by T.drenamed_by ["term", "names"] (spRb K T.CInvalidOperation) := by
  have nd := sc_renamed_by.nd
  have G := ok_ck (P := P) (w := w) (base := base) T
  have G1 := ok_joint (P := P) (w := w) (base := base) T
  have G2 := ok_rn (P := P) (w := w) (base := base) T
  have G3 := ok_with (P := P) (w := w) (base := base) T
  refine T.frenamed_by.okX sc_renamed_by (fun vs H Q E h => ?_) (fun cdv A outer s H vs Q E hr h => ?_)
  · obtain ⟨x, a, d, m, rfl, _⟩ := h
    rfl
  · obtain ⟨x, a, d, m, rfl, hx, td, sz, ha, hm, ndm, lm, q1, q0⟩ := h
    refine ⟨_, (pss_cons (ps_expr (pe_call G (hr.mono (by omega)) (by rfl) T.gcheck_term T.fcheck_term.kp T.ncheck_term .nil (passes_call (takes_of rfl rfl rfl rfl) (fun _ _ _ _ h => h)) (pa_cons (pv 0) pa_nil)))
      (pss_cons (ps_expr (pe_call G2 (hr.mono (by omega)) (by rfl) T.gcheck_renaming T.fcheck_renaming.kp T.ncheck_renaming .nil (passes_call (takes_of rfl rfl rfl rfl) (fun _ _ _ _ h => h)) (pa_cons (pe_call G1 (hr.mono (by omega)) (by rfl) T.gjoint_places T.fjoint_places.kp T.njoint_places .nil pass0 (pa_cons (pe_lst (pa_cons (pv 0) pa_nil)) pa_nil)) (pa_cons (pv 1) pa_nil))))
      (pss_one (ps_ret (pe_call G3 (hr.mono (by omega)) (by rfl) T.gwith_names T.fwith_names.kp T.nwith_names .nil pass0 (pa_cons (pv 0) (pa_cons (pv 1) pa_nil))))))), ?_⟩
    refine ⟨_, rfl, x, d, rfl, hx, fun _ H1 s1 => ?_, fun z => by rw [td] at z; cases z⟩
    refine ⟨_, rfl, (by show 1 ≤ sizeLine; decide), fun l nl => ?_⟩
    have s2 := s1.trans (same_put (o := .lst [x]) nl)
    refine ⟨l, x, d, rfl, .inl (.inl upd_same), hx.1.up s2, hx.2.1, hx.2.2, fun v H3 s3 _ ht => ?_⟩
    obtain ⟨p, ms, rfl, np, ep, ndp, lms, mem⟩ := ht td
    have s23 := s2.trans s3
    have ha3 := s23 _ _ ha
    have npa : p ≠ a := fun z => by
      rw [z, s2 _ _ ha] at np
      cases np
    refine ⟨_, rfl, p, a, ms, m, rfl, npa, ep, ha3, hm, ndm, lm, by omega, fun ap H4 s4 => ?_, fun ap H4 s4 => q0 (fun z => ap ((apart_iff ndp mem).mpr z)) H4 (s23.trans s4)⟩
    have s24 := s23.trans s4
    have fm := termD_formed td
    refine ⟨_, rfl, _, rfl, x, a, d, m, rfl, hx.1.up s24, .inl (s24 _ _ ha), fm, ?_, fun v H5 s5 dv => q1 ((apart_iff ndp mem).mp ap) v H5 (s24.trans s5) dv⟩
    have : ∀ (d : PyData), formedD d = true → (preD d).length ≤ szD d := pre_sz
    exact Nat.le_trans (this d fm) hx.2.2
end
end K03
/-! def f(x, **names): the keywords' dict. -/
namespace Kx
open PySem PySem.Spec PyProof.Rows L2
section
variable {P : Program} {w : World} {A : Around} {E : Value → Shared → Prop} {s : Shared} {d : Addr}
theorem mapM_str {kvs : List (Key × Value)} {es : List DictEntry} (p : Pairs (mixKind P w) es kvs) {x : Str} (n : ∀ v, (Sum.inr x, v) ∉ kvs) : (∀ e ∈ es, e.key.isStr x = false) ∧ ∀ e ∈ es, e.refKey = false := by
  induction p with
  | nil => exact ⟨fun e h => (nomatch h), fun e h => (nomatch h)⟩
  | @cons e kv es kvs h1 h2 t ih =>
    obtain ⟨i1, i2⟩ := ih fun v hv => n v (List.mem_cons_of_mem _ hv)
    have h1 : keyIs kv.1 e.key = true := h1
    constructor
    · intro c hc
      rcases List.mem_cons.mp hc with q | hc
      · subst q
        rcases keyIs_shape h1 with ⟨i, tk, _, ek⟩ | ⟨y, tk, ey, ek⟩
        · rw [ek]
          rfl
        · rw [ek]
          show (y == x) = false
          refine beq_eq_false_iff_ne.mpr fun q => n kv.2 ?_
          rw [← q, ← ey]
          exact List.mem_cons_self
      · exact i1 c hc
    · intro c hc
      rcases List.mem_cons.mp hc with q | hc
      · subst q
        rcases keyIs_shape h1 with ⟨i, tk, _, ek⟩ | ⟨y, tk, ey, ek⟩ <;> (unfold DictEntry.refKey; rw [ek])
      · exact i2 c hc
theorem nsSet_dict {kvs : List (Key × Value)} {x : Str} {v : Value} {Q : Unit → Shared → Prop} (dd : s.heap.DictOf (mixKind P w) d kvs) (n : ∀ v, (Sum.inr x, v) ∉ kvs)
    (h : ∀ h' t', h'.DictOf (mixKind P w) d (kvs ++ [(Sum.inr x, v)]) → Heap.SameBut d s.heap h' → Q () { s with heap := h', toks := t' }) : wpAny (model P w) A (nsSet d x v) Q E s := by
  obtain ⟨o, es, ep, ho, ⟨e1, e2, e3⟩, hd, hk, hp, nod⟩ := dd
  obtain ⟨cl, dc, dt, sl⟩ := o
  dsimp only at e1 e2 e3 hd
  subst e1 e2 e3 hd
  obtain ⟨m1, m2⟩ := mapM_str hp n
  have a1 : es.any (·.key.isStr x) = false := by
    rw [← Array.any_toList, List.any_eq_false]
    exact fun e he => by rw [m1 e he]; simp
  have a2 : es.any (·.refKey) = false := by
    rw [← Array.any_toList, List.any_eq_false]
    exact fun e he => by rw [m2 e he]; simp
  have c : aRefKeyMayBeTheName x es = false := by rw [aRefKeyMayBeTheName_at, a1, a2]; rfl
  have pn : ∀ (hs : Int) (key : Value), Obj.putName x hs key v { cls := .type "dict", dict := none, data := .dict es ep, slots := #[] } = { cls := .type "dict", dict := none, data := .dict (es.push ⟨hs, key, v⟩) (ep + 1), slots := #[] } := fun hs key => by
    have z := PySem.W.putName_dict x hs key v es.toList ep
    unfold PySem.W.dictOf at z
    rw [Array.toArray_toList] at z
    rw [z, PySem.W.putL_new m1]
    unfold PySem.W.putN
    have : es.toList.any (·.key.isStr x) = false := by rw [Array.any_toList]; exact a1
    simp [this]
    exact Array.ext' (by simp)
  unfold nsSet strHash
  refine wpAny_bind (wpAny_bind (wpAny_askSetting (wpAny_pure (wpAny_bind (wpAny_mkText (wpAny_bind (wpAny_loadPart ho ?_)))))))
  dsimp only
  rw [c]
  refine wpAny_updatePart ho (h _ _ ?_ ⟨by simp [Heap.update], fun b hb => Heap.get?_update_other _ _ (fun z => hb z.symm)⟩)
  refine ⟨{ cls := .type "dict", dict := none, data := .dict (es.push ⟨hashStr w x, .str x s.toks, v⟩) (ep + 1), slots := #[] }, es.push ⟨hashStr w x, .str x s.toks, v⟩, ep + 1, ?_, ⟨rfl, rfl, rfl⟩, rfl, hk.push (k := Sum.inr x) (key := .str x s.toks) (show keyIs (Sum.inr x) (.str x s.toks) = true from keyIs_str x _) v, ?_, ?_⟩
  · rw [Heap.get?_update_self _ ho (by rw [pn]; rfl), pn]
    rfl
  · rw [Array.toList_push]
    have : ∀ {es : List DictEntry} {kvs : List (Key × Value)}, Pairs (mixKind P w) es kvs → Pairs (mixKind P w) (es ++ [⟨hashStr w x, .str x s.toks, v⟩]) (kvs ++ [(Sum.inr x, v)]) := by
      intro es kvs p
      induction p with
      | nil => exact .cons (show keyIs (Sum.inr x) (.str x s.toks) = true from keyIs_str x _) rfl .nil
      | cons h1 h2 _ ih => exact .cons h1 h2 ih
    exact this hp
  · rw [List.map_append, List.nodup_append]
    refine ⟨nod, by simp, fun a ha b hb => ?_⟩
    simp at hb
    subst hb
    rintro rfl
    obtain ⟨⟨k1, v1⟩, m, e⟩ := List.mem_map.mp ha
    dsimp only at e
    subst e
    exact n v1 m
/-- the keywords are put in, one by one -/
theorem fill_dict {Q : PUnit → Shared → Prop} : ∀ (l : List (Str × Value)) (s : Shared) (kvs : List (Key × Value)), s.heap.DictOf (mixKind P w) d kvs → (l.map Prod.fst).Nodup → (∀ p, p ∈ l → ∀ v, (Sum.inr p.1, v) ∉ kvs) →
    (∀ h' t', h'.DictOf (mixKind P w) d (kvs ++ l.map fun p => (Sum.inr p.1, p.2)) → Heap.SameBut d s.heap h' → Q PUnit.unit { s with heap := h', toks := t' }) →
    wpAny (model P w) A (forIn l PUnit.unit fun x _ => (nsSet d x.1 x.2 >>= fun _ => pure (ForInStep.yield PUnit.unit))) Q E s
  | [], s, kvs, dd, _, _, h => by
    rw [List.forIn_nil]
    exact wpAny_pure (h s.heap s.toks (by simpa using dd) (Heap.SameBut.refl _ _))
  | p :: l, s, kvs, dd, nd, n, h => by
    rw [List.map_cons, List.nodup_cons] at nd
    rw [List.forIn_cons]
    refine wpAny_bind (wpAny_bind (nsSet_dict dd (n p List.mem_cons_self) fun h' t' dd' sb => wpAny_pure ?_))
    refine fill_dict l { s with heap := h', toks := t' } _ dd' nd.2 (fun q hq v hv => ?_) fun h'' t'' dd'' sb' => ?_
    · rcases List.mem_append.mp hv with hv | hv
      · exact n q (List.mem_cons_of_mem _ hq) v hv
      · have e := List.mem_singleton.mp hv
        rw [Prod.mk.injEq] at e
        have e1 := Sum.inr.inj e.1
        exact nd.1 (by rw [← e1]; exact List.mem_map.mpr ⟨q, hq, rfl⟩)
    · refine h h'' t'' ?_ (sb.trans sb')
      rw [List.append_assoc] at dd''
      exact dd''
end
/-- the keywords as a dict -/
def kwD (ks : List Str) (zs : List V) : List (Key × V) := (ks.zip zs).map fun p => (Sum.inr p.1, p.2)
section
variable {CX : CXT} {P : Program} {w : World} {K : PySem.W.Frag} {mg : Str → Option Value} {base : Heap} {k : Nat} {f : Addr} {name qual : Str} {params : Arguments} {body : List Stmt} {scope : Scope} {dV kV doc pm cdv ct oc : Value} {an od : Option Addr}
  {osl : Array (Option Value)} {N ks : List Str} {sp : Sp} {p1 pd : Str}
theorem kwD_rel {ks : List Str} {zs : List V} {ws : List Value} (r : Vals zs ws) : KV (kwD ks zs) ((ks.zip ws).map fun p => (Sum.inr p.1, p.2)) := by
  induction r generalizing ks with
  | nil =>
    cases ks <;> exact .nil
  | cons h t ih =>
    cases ks with
    | nil => exact .nil
    | cons a ks => exact .cons ⟨rfl, h⟩ ih
/-- def f(x, **names) called with the keywords ks -/
theorem run_kw (lk : K.lookup f = some ⟨oc, od, .func (PySem.W.fnOf name qual params body scope dV kV doc pm an cdv ct), osl⟩) (hcd : PySem.W.codeIn K cdv qual = true) (S : FnScope N [p1, pd] scope) (hCX : StX.CXUp CX) (nk : ks.Nodup) (few : ks.length ≤ 100)
    (hb : ∀ (u : Value) (ws : List Value), ws.length = ks.length → bindArgs (PySem.W.fnOf name qual params body scope dV kV doc pm an cdv ct) ⟨[u], ks.zip ws⟩ =
      ((alloc ({ cls := .type "dict", data := .dict #[] } : Obj) : Sem Addr) >>= fun d => (forIn (ks.zip ws) PUnit.unit fun x _ => (nsSet d x.1 x.2 >>= fun _ => pure (ForInStep.yield PUnit.unit))) >>= fun _ => pure [(p1, u), (pd, Value.ref d)]))
    (hbody : ∀ (A : Around) (outer : List Env) (s : Shared) (H : Hp) (vs : List V) (Q : VK) (E : XK), Room k (A.deeper (envOfC qual scope s.heap.objs.size f cdv)) → sp vs H Q E →
      ∃ t, PSs (cxOf CX P w K mg base N qual scope f cdv A outer s H E) body t ∧ t { nx := fun _ H' => Q .non H', rt := Q } (L2.start N vs) H)
    {A : Around} {outer : List Env} {s : Shared} {H : Hp} {u : Value} {v : V} {ws : List Value} {zs : List V} {Q : VK} {E : XK} (hr : Room (k + 1) A) (e0 : Env0 P w K mg base A outer s H) (ru : RelV v u) (rz : Vals zs ws) (lz : zs.length = ks.length)
    (h : ∀ d, H d = none → sp [v, .ref d] (upd H d (.dK (kwD ks zs))) Q E) : codeAny (model P w) A (.call (.ref f) ⟨[u], ks.zip ws⟩) (CR CX outer P w H s Q E) s := by
  have hn : H s.heap.objs.size = none := e0.hok.fresh (Nat.le_refl _)
  have lw : ws.length = ks.length := by rw [← rz.length]; exact lz
  refine StX.run_bnd lk hcd S hr e0 (G := fun xs H2 => ∃ d, H d = none ∧ xs = [v, .ref d] ∧ H2 = upd H d (.dK (kwD ks zs))) (fun A' Ex Q' q => ?_) fun s2 H2 xs ⟨d, hd, ex, eH⟩ hr' => ?_
  · rw [hb u ws lw]
    refine wpAny_bind (wpAny_alloc (wpAny_bind (fill_dict (ks.zip ws) _ [] (Heap.DictOf.new s.heap) ?_ (fun _ _ _ h => nomatch h) fun h' t' dd sb => wpAny_pure ?_)))
    · rw [List.map_fst_zip (by omega)]
      exact nk
    · have kp : ∀ b o, s.heap.get? b = some o → h'.get? b = some o := fun b o e => (sb.2 b (Nat.ne_of_lt (Heap.lt_size e))).trans (Heap.get?_push_of_some _ e)
      have big := StX.env0_big e0
      have ln : (kwD ks zs).length ≤ 100 := by
        rw [kwD, List.length_map, List.length_zip]
        omega
      have new : ObjOk P w (upd H s.heap.objs.size (.dK (kwD ks zs))) h' s.heap.objs.size (.dK (kwD ks zs)) :=
        dk_new (Nat.le_trans ln (by decide)) (beq_eq_false_iff_ne.mpr (Ne.symm (Nat.ne_of_lt big))) (kwD_rel rz) (by simpa using dd)
      have un : Un (frs outer) [] H (upd H s.heap.objs.size (.dK (kwD ks zs))) s.heap h' := Un.laid kp (Nat.le_refl _) hn
      have e1 : Env0 P w K mg base A outer { s with heap := h', toks := t' } (upd H s.heap.objs.size (.dK (kwD ks zs))) := by
        refine ⟨e0.frames, e0.mod, fun b o e => ⟨kp b o (e0.bs b o e).1, ?_⟩, ?_, Heap.FunFrames.of_keeps (fun b o e _ => ⟨o, kp b o e, rfl⟩) e0.funs, fun b hb => ?_, e0.hok.laid kp (Nat.le_refl _) new, e0.bare⟩
        · rw [upd_ne (Nat.ne_of_lt (Heap.lt_size (e0.bs b o e).1))]
          exact (e0.bs b o e).2
        · have z := sb.1
          show base.objs.size ≤ h'.objs.size
          rw [z, Heap.size_push]
          exact Nat.le_succ_of_le e0.bsz
        · obtain ⟨_, o, ho, _⟩ := e0.funs.mem hb
          rw [upd_ne (Nat.ne_of_lt (Heap.lt_size ho))]
          exact e0.frf b hb
      exact q _ _ [v, .ref s.heap.objs.size] [u, .ref s.heap.objs.size] e1 un rfl (fun e s' => hCX outer s H _ _ E e s' un kp rfl) (.cons ru (.cons rfl .nil)) rfl ⟨_, hn, rfl, rfl⟩
  · subst ex eH
    exact hbody A outer s2 _ _ Q E hr' (h d hd)
/-- a def f(x, **names) keeps sp, called with the keywords ks -/
def KwR (P : Program) (w : World) (K : PySem.W.Frag) (mg : Str → Option Value) (base : Heap) (CX : CXT) (k : Nat) (f : Addr) (ks : List Str) (sp : Sp) : Prop :=
  ∀ (A : Around) (outer : List Env) (s : Shared) (H : Hp) (u : Value) (v : V) (ws : List Value) (zs : List V) (Q : VK) (E : XK), Room k A → Env0 P w K mg base A outer s H → RelV v u → Vals zs ws → zs.length = ks.length →
    (∀ d, H d = none → sp [v, .ref d] (upd H d (.dK (kwD ks zs))) Q E) → codeAny (model P w) A (.call (.ref f) ⟨[u], ks.zip ws⟩) (CR CX outer P w H s Q E) s
theorem KwR.none (R : KwR P w K mg base CX k f [] sp) : L2.FnR P w K mg base CX k f (fun vs H Q E => ∃ v, vs = [v] ∧ ∀ d, H d = none → sp [v, .ref d] (upd H d (.dK [])) Q E) := by
  intro A outer s H us vs Q E hr e0 r h
  obtain ⟨v, rfl, h⟩ := h
  obtain ⟨u, rfl, ru⟩ := r.one
  exact R A outer s H u v [] [] Q E hr e0 ru .nil rfl h
end
section
variable {X : Cx} {CX : CXT} {k : Nat} {f : Addr} {ks : List Str} {sp : Sp} {E : XK} {x : Str} {p pos : Pos} {e : Expr} {kws : List Keyword} {t tk : TA}
theorem pe_callKw (R : KwR X.prog X.w X.K X.mg X.base CX k f ks sp) (hr : Room k X.A) (hg : Gl X x) (hm : X.mg x = some (.ref f)) (hk : PySem.W.keepIn X.K (.ref f) = true) (hx : Passes CX X E) (ha : PA X [e] t) (hkw : PK X kws tk)
    (hall : (backToKw pos (keywordEach kws X.env)).all (·.1.isSome) = true := by rfl) (hks : (backToKw pos (keywordEach kws X.env)).filterMap (·.1) = ks := by rfl) (hdb : (x == ("__debug__" : Str)) = false := by decide)
    (he : starEach [e] X.env = (false, eval e X.env) :: starEach [] X.env := by rfl) (hpl : ((backTo pos (starEach [e] X.env)).any (·.1) || (backToKw pos (keywordEach kws X.env)).any (·.1.isNone)) = false := by rfl) :
    PE X (.Call (.Name x p) [e] kws pos) (fun σ H Q => t σ H fun vs H1 => tk σ H1 fun zs H2 => ∃ v, vs = [v] ∧ zs.length = ks.length ∧ ∀ d, H2 d = none → sp [v, .ref d] (upd H2 d (.dK (kwD ks zs))) Q E) := by
  refine ⟨fun pins s σ H Q I h => wpAny_Call_Name_kw (ld_glob I hg hm ?_ hdb)⟩
  refine PySem.W.callWith_KW (h₀ := X.base) I.ok.mod.kin hk hall (thn (ha.run pos pins s σ H _ I h) fun us s1 ⟨vs, H1, I1, r, q⟩ => ?_) hpl he
  refine thn (hkw.run pos pins s1 σ H1 _ I1 q) fun ws s2 ⟨zs, H2, I2, rz, v, ev, lz, q2⟩ => ⟨I2.kIn, ?_⟩
  subst ev
  obtain ⟨u, rfl, ru⟩ := r.one
  rw [hks]
  refine wpAny_call (codeAny_mono (R X.A X.stack s2 H2 u v ws zs Q E hr I2.env0 ru rz lz q2) fun r s' hq => ?_)
  cases r with
  | error e => exact hx pins σ H2 s2 e s' I2 hq
  | ok fl =>
    cases fl with
    | ret u => exact I2.after hq
    | _ => exact hq.elim
end
end Kx
/-! renamed. -/
namespace K03
open PySem PySem.Spec PyProof.Rows L2 Kx
section
variable {P : Program} {w : World} {K : PySem.W.Frag} {mg : Str → Option Value} {base : Heap}
theorem ok_ren (T : Tx K mg) {ks : List Str} (nk : ks.Nodup) (few : ks.length ≤ 100)
    (hb : ∀ (kV dc pm cd ct : Value) (an : Option Addr) (u : Value) (ws : List Value), ws.length = ks.length → bindArgs (PySem.W.fnOf "renamed" "renamed" (defArgs s_renamed) (defBody s_renamed) (defScope s_renamed) .none kV dc pm an cd ct) ⟨[u], ks.zip ws⟩ =
      ((alloc ({ cls := .type "dict", data := .dict #[] } : Obj) : Sem Addr) >>= fun d => (forIn (ks.zip ws) PUnit.unit fun x _ => (nsSet d x.1 x.2 >>= fun _ => pure (ForInStep.yield PUnit.unit))) >>= fun _ => pure ([("term", u), ("names", Value.ref d)] : List (Str × Value)))) :
    KwR P w K mg base (L2.CX P w) 7 T.arenamed ks (spRb K T.CInvalidOperation) := by
  obtain ⟨oc, od, kV, doc, pm, an, cdv, ct, osl, ed, lk, hcd⟩ := T.frenamed.ex
  have G := ok_rb (P := P) (w := w) (base := base) T
  rw [ed] at lk
  intro A outer s H u v ws zs Q E hr e0 ru rz lz h
  refine run_kw (N := N_renamed) (sp := spRb K T.CInvalidOperation) lk hcd sc_renamed StX.cxUp nk few (fun u ws hl => hb _ _ _ _ _ _ u ws hl) (fun A outer s H vs Q E hr h => ?_) hr e0 ru rz lz h
  refine ⟨_, (pss_one (ps_ret (pe_call G (hr.mono (by omega)) (by rfl) T.grenamed_by T.frenamed_by.kp T.nrenamed_by .nil (passes_call (takes_of rfl rfl rfl rfl) (fun _ _ _ _ h => h)) (pa_cons (pv 0) (pa_cons (pv 1) pa_nil))))), ?_⟩
  obtain ⟨x, a, d, m, rfl, rest⟩ := h
  exact ⟨_, rfl, _, rfl, x, a, d, m, rfl, rest⟩
theorem ok_ren0 (T : Tx K mg) : KwR P w K mg base (L2.CX P w) 7 T.arenamed [] (spRb K T.CInvalidOperation) := ok_ren T (by decide) (by decide) fun kV dc pm cd ct an u ws hl => match ws, hl with | [], _ => rfl
theorem ok_ren3 (T : Tx K mg) : KwR P w K mg base (L2.CX P w) 7 T.arenamed ["f", "b", "a"] (spRb K T.CInvalidOperation) := ok_ren T (by decide) (by decide) fun kV dc pm cd ct an u ws hl => match ws, hl with | [_, _, _], _ => rfl
theorem ok_ren2 (T : Tx K mg) : KwR P w K mg base (L2.CX P w) 7 T.arenamed ["a", "b"] (spRb K T.CInvalidOperation) := ok_ren T (by decide) (by decide) fun kV dc pm cd ct an u ws hl => match ws, hl with | [_, _], _ => rfl
theorem ok_ren2f (T : Tx K mg) : KwR P w K mg base (L2.CX P w) 7 T.arenamed ["f", "a"] (spRb K T.CInvalidOperation) := ok_ren T (by decide) (by decide) fun kV dc pm cd ct an u ws hl => match ws, hl with | [_, _], _ => rfl
end
end K03
/-! The parts of a term, listed, each as data. -/
namespace K03
open PySem PySem.Spec PyProof.Rows L2 Kx
mutual
/-- all parts, itself last -/
def belD : PyData → List PyData
  | .tuple (x :: ds) => belAll ds ++ [.tuple (x :: ds)]
  | d => [d]
def belAll : List PyData → List PyData
  | [] => []
  | d :: ds => belD d ++ belAll ds
end
theorem belAll_app : ∀ (l m : List PyData), belAll (l ++ m) = belAll l ++ belAll m
  | [], m => by simp [belAll]
  | d :: l, m => by simp [belAll, belAll_app l m]
mutual
theorem bel_perm : ∀ d : PyData, (belD d).Perm (preD d)
  | .tuple (x :: ds) => by
    rw [belD, preD]
    exact (List.perm_append_singleton _ _).trans ((bel_perms ds).cons _)
  | .tuple [] => List.Perm.refl _
  | .none => List.Perm.refl _
  | .bool _ => List.Perm.refl _
  | .int _ => List.Perm.refl _
  | .str _ => List.Perm.refl _
  | .list _ => List.Perm.refl _
  | .dict _ => List.Perm.refl _
theorem bel_perms : ∀ ds : List PyData, (belAll ds).Perm (preAll ds)
  | [] => List.Perm.refl _
  | d :: ds => by
    rw [belAll, preAll]
    exact (bel_perm d).append (bel_perms ds)
end
theorem bel_len (d : PyData) : (belD d).length = (preD d).length := (bel_perm d).length_eq
theorem belAll_take {ds : List PyData} {i : Nat} {d : PyData} (h : ds[i]? = some d) : belAll (ds.take (i + 1)) = belAll (ds.take i) ++ belD d := by
  rw [List.take_add_one, h, belAll_app]
  simp [belAll]
theorem belAll_le (ds : List PyData) (i : Nat) : (belAll (ds.take i)).length ≤ (belAll ds).length := by
  have z : belAll (ds.take i ++ ds.drop i) = belAll ds := by rw [List.take_append_drop]
  rw [belAll_app] at z
  rw [← z, List.length_append]
  omega
mutual
theorem bel_formed : ∀ d : PyData, formedD d = true → ∀ e, e ∈ belD d → formedD e = true
  | .tuple (x :: ds), h, e, he => by
    have h' := h
    rw [formedD, Bool.and_eq_true] at h
    rw [belD] at he
    rcases List.mem_append.mp he with he | he
    · exact bel_formeds ds h.2 e he
    · rw [List.mem_singleton.mp he]
      exact h'
  | .tuple [], h, _, _ => by cases h
  | .none, h, _, _ => by cases h
  | .bool _, h, _, _ => by cases h
  | .int _, h, _, _ => by cases h
  | .str _, h, _, _ => by cases h
  | .list _, h, _, _ => by cases h
  | .dict _, h, _, _ => by cases h
theorem bel_formeds : ∀ ds : List PyData, formedAll ds = true → ∀ e, e ∈ belAll ds → formedD e = true
  | [], _, e, he => by cases he
  | d :: ds, h, e, he => by
    rw [formedAll, Bool.and_eq_true] at h
    rw [belAll] at he
    rcases List.mem_append.mp he with he | he
    · exact bel_formed d h.1 e he
    · exact bel_formeds ds h.2 e he
end
/-- a part's name and how many places it has -/
def rowD : PyData → NK
  | .tuple (y :: ds) => (headD y, ds.length)
  | _ => (Str.empty, 0)
mutual
theorem bel_rows : ∀ d : PyData, formedD d = true → ((belD d).map rowD).Perm (rowsD d)
  | .tuple (x :: ds), h => by
    rw [formedD, Bool.and_eq_true] at h
    rw [belD, rowsD, List.map_append]
    exact (List.perm_append_singleton _ _).trans ((bel_rowss ds h.2).cons _)
  | .tuple [], h => by cases h
  | .none, h => by cases h
  | .bool _, h => by cases h
  | .int _, h => by cases h
  | .str _, h => by cases h
  | .list _, h => by cases h
  | .dict _, h => by cases h
theorem bel_rowss : ∀ ds : List PyData, formedAll ds = true → ((belAll ds).map rowD).Perm (rowsAll ds)
  | [], _ => List.Perm.refl _
  | d :: ds, h => by
    rw [formedAll, Bool.and_eq_true] at h
    rw [belAll, rowsAll, List.map_append]
    exact (bel_rows d h.1).append (bel_rowss ds h.2)
end
section
variable {P : Program} {w : World} {K : PySem.W.Frag} {mg : Str → Option Value} {base : Heap}
def spBl (K : PySem.W.Frag) (n : Nat) : Sp := fun vs H Q _ => ∃ (x : V) (d : PyData), vs = [x] ∧ Dx K H x d ∧ formedD d = true ∧ d.depth ≤ n ∧ (preD d).length ≤ 5000 ∧
  ∀ p H' ys, Same H H' → H p = none → H' p = some (.lst ys) → DxAll K H' ys (belD d) → Q (.ref p) H'
theorem ok_bl (T : Tx K mg) : ∀ n, FnOk P w K mg base CX0 (n + 1) T.a_law_below T.d_law_below ["term"] (spBl K n)
  | 0 => by
    refine T.f_law_below.ok sc__law_below (fun vs H Q E h => ?_) (fun cdv A outer s H vs Q E hr h => ?_)
    · obtain ⟨x, d, rfl, _⟩ := h
      rfl
    · exfalso
      obtain ⟨x, d, rfl, hx, hf, hd, _⟩ := h
      obtain ⟨z, ds, rfl, _⟩ := formed_shape hf
      simp [PyData.depth] at hd
  | n + 1 => by
    have nd := sc__law_below.nd
    have G := ok_bl T n
    refine T.f_law_below.ok sc__law_below (fun vs H Q E h => ?_) (fun cdv A outer s H vs Q E hr h => ?_)
    · obtain ⟨x, d, rfl, _⟩ := h
      rfl
    · obtain ⟨x, d, rfl, hx, hf, hd, hl, q⟩ := h
      obtain ⟨nm, ds, rfl, l3, hnm, hfa⟩ := formed_shape hf
      have hx0 := hx
      cases hx with
      | @tup a xs _ ha hs =>
      cases hs with
      | @cons v0 ws _ _ h0 hw =>
      cases h0
      have lw := hw.length
      have hdd : PyData.depthAll ds ≤ n := by
        simp only [PyData.depth, PyData.depthAll] at hd
        omega
      have lr : (preD (.tuple (.str nm :: ds))).length = (belAll ds).length + 1 := by
        rw [preD, List.length_cons, (bel_perms ds).length_eq]
      rw [lr] at hl
      refine ⟨_, (pss_cons (ps_set (i := 1) nd rfl (.inl rfl) (pe_lst pa_nil))
      (pss_cons (ps_for PassesOwn.never rfl (pi_tup (pe_slice sl_tupA (pv 0) (po_some pe_int) po_none)) (pg_name (i := 2) nd rfl (.inl rfl)) (pss_one (ps_set (i := 1) nd rfl (.inl rfl) (pe_op op_cat (pv 1) (pe_call G (hr.mono (by omega)) (by rfl) T.g_law_below T.f_law_below.kp T.n_law_below .nil pass0 (pa_cons (pv 2) pa_nil))))))
      (pss_one (ps_ret (pe_op op_cat (pv 1) (pe_lst (pa_cons (pv 0) pa_nil))))))), ?_⟩
      refine ⟨Nat.zero_le _, fun f nf => ?_⟩
      have s1 := same_put (o := .lst []) nf
      refine ⟨_, rfl, 1, rfl, ?_⟩
      dsimp only [tNoPart]
      refine sl_from (S := []) (i := 1) ((hx0.up s1).up offs_nil) olds_nil fun y H2 sl dy => ?_
      have dy := dy.up OffS.all
      rw [List.drop_one, List.tail_cons] at dy
      cases dy with
      | @tup c us _ hc hus =>
      have lus := hus.length
      have s2 := s1.trans sl
      refine ⟨c, rfl, ⟨_, SqT.of hc⟩, ?_⟩
      refine for_tup (K := K) (a := c) (xs := us) (D := { nx := tRet (tOp rCat (tVar 1) (tLst (tCons (tVar 0) tNil))) { nx := fun _ H' => Q .non H', rt := Q }, rt := Q }) (fun i σ H3 => Same H2 H3 ∧ ∃ (g : Addr) (ys : List V) (y : Option V), σ = [some (.ref a), some (.ref g), y] ∧ H3 g = some (.lst ys) ∧ DxAll K H3 ys (belAll (ds.take i)))
        ⟨Same.refl _, f, [], none, rfl, sl _ _ upd_same, by simp [belAll]; exact .nil⟩ (fun i σ H3 _ h => SqT.of (h.1 _ _ hc)) ?_ ?_
      · rintro i y σ H3 hi ⟨sm, g, ys, y0, rfl, eg, dys⟩
        have lt : i < ds.length := by
          rw [← lus]
          exact (List.getElem?_eq_some_iff.mp hi).1
        have gd := List.getElem?_eq_getElem lt
        obtain ⟨v, hv, dv⟩ := hus.get gd
        rw [hi] at hv
        cases hv
        have le1 := belAll_le ds i
        have le2 := belAll_le ds (i + 1)
        rw [belAll_take gd, List.length_append] at le2
        have lys := dys.length
        refine ⟨_, rfl, _, rfl, _, _, rfl, dv.up sm, formedAll_get hfa gd, Nat.le_trans (depthAll_get gd) hdd, by rw [← bel_len]; omega, fun p H4 zs sm4 np ep dz => ?_⟩
        have lzs := dz.length
        refine ⟨g, p, _, _, rfl, rfl, sm4 _ _ eg, ep, Nat.le_of_lt (big5 (by omega)), fun e ne => ?_⟩
        have sme := same_put (o := .lst (ys ++ zs)) ne
        refine ⟨sm.trans (sm4.trans sme), e, ys ++ zs, _, rfl, upd_same, ?_⟩
        rw [belAll_take gd]
        exact DxAll.append (dys.up (sm4.trans sme)) (dz.up sme)
      · rintro σ H3 ⟨sm, g, ys, y, rfl, eg, dys⟩
        rw [lus, List.take_length] at dys
        have lys := dys.length
        refine ⟨_, rfl, _, rfl, (by show 1 ≤ sizeLine; decide), fun e ne => ?_⟩
        have sme := same_put (o := .lst [V.ref a]) ne
        refine ⟨g, e, _, _, rfl, rfl, sme _ _ eg, upd_same, Nat.le_of_lt (big5 (by simp only [List.length_singleton]; omega)), fun p np => ?_⟩
        have smp := same_put (o := .lst (ys ++ [V.ref a])) np
        have smA := s2.trans (sm.trans (sme.trans smp))
        refine q p _ (ys ++ [V.ref a]) smA ((s2.trans (sm.trans sme)).free np) upd_same ?_
        rw [belD]
        exact DxAll.append (dys.up (sme.trans smp)) (.cons (hx0.up smA) .nil)
end
end K03
/-! == and != of data, deep ones. -/
namespace Kx
open PySem PySem.Spec PyProof.Rows L2
section
variable {X : Cx}
/-- == and != of data, deep ones -/
def rEqF (K : PySem.W.Frag) : R2 := fun x y H Q => ∃ d e, Dp K H x d ∧ Dp K H y e ∧ d.canLay0 = true ∧ e.canLay0 = true ∧ d.depth ≤ 190 ∧ Q (.bl (PyData.eqv d e)) H
def rNeF (K : PySem.W.Frag) : R2 := fun x y H Q => ∃ d e, Dp K H x d ∧ Dp K H y e ∧ d.canLay0 = true ∧ e.canLay0 = true ∧ d.depth ≤ 190 ∧ Q (.bl (!PyData.eqv d e)) H
theorem op_eqF (hu : X.A.units + 200 < cLine) : OpR X (compareOp .Eq) (rEqF X.K) := by
  intro pins s σ H x y v u Q I rx ry h
  obtain ⟨d, e, hd, he, sd, se, z, q⟩ := h
  obtain ⟨as, r1⟩ := Dp.reads I d x v hd rx
  obtain ⟨bs, r2⟩ := Dp.reads I e y u he ry
  exact SeqAt.compareEq_reads r1 r2 sd se (by have := Nat.min_le_left d.depth e.depth; omega) ⟨.bl _, H, I, rfl, q⟩
theorem op_neF (hu : X.A.units + 200 < cLine) : OpR X (compareOp .NotEq) (rNeF X.K) := by
  intro pins s σ H x y v u Q I rx ry h
  obtain ⟨d, e, hd, he, sd, se, z, q⟩ := h
  obtain ⟨as, r1⟩ := Dp.reads I d x v hd rx
  obtain ⟨bs, r2⟩ := Dp.reads I e y u he ry
  exact SeqAt.compareNe_reads r1 r2 sd se (by have := Nat.min_le_left d.depth e.depth; omega) ⟨.bl _, H, I, rfl, q⟩
end
theorem room200 {k : Nat} {A : Around} (r : Room k A) : A.units + 200 < cLine := by
  have := r.un
  omega
end Kx
/-! What the layer wants of terms. -/
namespace K03
open PySem PySem.Spec PyProof.Rows L2 Kx
theorem nm_ok {x : Str} (h : isNm x = true) : PyData.strOk x = true ∧ (reprText x).length ≤ 82 ∧ x.length ≤ 8 := by
  simp only [isNm, Bool.and_eq_true, decide_eq_true_eq] at h
  obtain ⟨⟨_, h8⟩, hl⟩ := h
  have each : ∀ c, c ∈ x.cps.toList → c ≤ 122 := fun c hc => by
    have := (Array.all_eq_true'.mp hl) c (Array.mem_toList_iff.mp hc)
    simp only [letter, Bool.and_eq_true, decide_eq_true_eq] at this
    exact this.2
  have r := StrLaws.reprText_len x (fun c hc => Nat.lt_of_le_of_lt (each c hc) (by decide))
  refine ⟨Array.all_eq_true'.mpr fun c hc => ?_, by omega, h8⟩
  have := each c (Array.mem_toList_iff.mpr hc)
  exact decide_eq_true (by omega)
/-- what the layer wants of data -/
structure Plain (d : PyData) : Prop where
  short : shortD d = true
  sw : d.showable = true
  lay : d.canLay0 = true
  hd : d.hasDict = false
  nl : noL d = true
structure Plains (ds : List PyData) : Prop where
  short : shortAll ds = true
  sw : PyData.showableAll ds = true
  lay : PyData.canLayAll0 ds = true
  hd : PyData.hasDictAll ds = false
  nl : noLs ds = true
theorem Plains.cons {d : PyData} {ds : List PyData} (h : Plain d) (t : Plains ds) : Plains (d :: ds) :=
  ⟨by simp [shortAll, h.short, t.short], by simp [PyData.showableAll, h.sw, t.sw], by simp [PyData.canLayAll0, h.lay, t.lay], by simp [PyData.hasDictAll, h.hd, t.hd], by simp [noLs, h.nl, t.nl]⟩
theorem Plains.tup {ds : List PyData} (t : Plains ds) : Plain (.tuple ds) :=
  ⟨by simp [shortD, t.short], by simp [PyData.showable, t.sw], by simp [PyData.canLay0, t.lay], by simp [PyData.hasDict, t.hd], by simp [noL, t.nl]⟩
theorem plain_name {d : PyData} (h : nameD d = true) : Plain d := by
  cases d with
  | str x =>
    have n := nm_ok (x := x) h
    exact ⟨by simp [shortD]; omega, rfl, by simp [PyData.canLay0, n.1], rfl, rfl⟩
  | _ => cases h
mutual
theorem plain_formed : ∀ d : PyData, formedD d = true → Plain d
  | .none, h => by cases h
  | .bool _, h => by cases h
  | .int _, h => by cases h
  | .str _, h => by cases h
  | .list _, h => by cases h
  | .dict _, h => by cases h
  | .tuple [], h => by cases h
  | .tuple (d :: ds), h => by
    simp only [formedD, Bool.and_eq_true] at h
    exact (Plains.cons (plain_name h.1.2) (plains_formed ds h.2)).tup
theorem plains_formed : ∀ ds : List PyData, formedAll ds = true → Plains ds
  | [], _ => ⟨rfl, rfl, rfl, rfl, rfl⟩
  | d :: ds, h => by
    simp only [formedAll, Bool.and_eq_true] at h
    exact Plains.cons (plain_formed d h.1) (plains_formed ds h.2)
end
end K03
/-! The law's own replacing and renaming. -/
namespace Kx
open PySem PySem.Spec PyProof.Rows L2
mutual
/-- data without lists stand as well without some lists -/
theorem Dx.offL {K : PySem.W.Frag} {H : Hp} {S : List Addr} (hS : ∀ b, b ∈ S → ∃ xs, H b = some (.lst xs)) : ∀ {d : PyData} {v : V}, noL d = true → Dx K H v d → Dx K (OffS S H) v d
  | .none, _, _, h => by cases h; exact .non
  | .bool b, _, _, h => by cases h; exact .bl b
  | .int i, _, _, h => by cases h; exact .int i
  | .str x, _, _, h => by cases h; exact .str x
  | .list ds, _, z, h => by cases z
  | .tuple ds, _, z, h => by
    cases h with
    | tup a b =>
      exact .tup (OffS.out (fun m => by
        obtain ⟨xs, e⟩ := hS _ m
        rw [a] at e
        cases e) a) (DxAll.offL hS (by simpa [noL] using z) b)
  | .dict ds, _, z, h => by
    cases h with
    | dic a b =>
      exact .dic (OffS.out (fun m => by
        obtain ⟨xs, e⟩ := hS _ m
        rw [a] at e
        cases e) a) b
theorem DxAll.offL {K : PySem.W.Frag} {H : Hp} {S : List Addr} (hS : ∀ b, b ∈ S → ∃ xs, H b = some (.lst xs)) : ∀ {ds : List PyData} {vs : List V}, noLs ds = true → DxAll K H vs ds → DxAll K (OffS S H) vs ds
  | [], _, _, h => by cases h; exact .nil
  | d :: ds, _, z, h => by
    cases h with
    | cons a b =>
      have z' : noL d = true ∧ noLs ds = true := by simpa [noLs] using z
      exact .cons (Dx.offL hS z'.1 a) (DxAll.offL hS z'.2 b)
end
end Kx
namespace K03
open PySem PySem.Spec PyProof.Rows L2 Kx
theorem formed_get_map {f : PyData → PyData} {ds : List PyData} {i : Nat} {d : PyData} (h : ds[i]? = some d) : (ds.take (i + 1)).map f = (ds.take i).map f ++ [f d] := by
  rw [List.take_add_one, h]
  simp
section
variable {P : Program} {w : World} {K : PySem.W.Frag} {mg : Str → Option Value} {base : Heap}
def spLp (K : PySem.W.Frag) (n : Nat) : Sp := fun vs H Q _ => ∃ (x o nw : V) (d e c : PyData), vs = [x, o, nw] ∧ Dx K H x d ∧ Dx K H o e ∧ Dx K H nw c ∧ formedD d = true ∧ formedD e = true ∧ formedD c = true ∧ d.depth ≤ n ∧
  ∀ v H', Same H H' → Dx K H' v (putD e c d) → Q v H'
theorem ok_lp (T : Tx K mg) : ∀ n, n ≤ 190 → FnOk P w K mg base CX0 (n + 1) T.a_law_put T.d_law_put ["term", "old", "new"] (spLp K n)
  | 0, _ => by
    refine T.f_law_put.ok sc__law_put (fun vs H Q E h => ?_) (fun cdv A outer s H vs Q E hr h => ?_)
    · obtain ⟨x, o, nw, d, e, c, rfl, _⟩ := h
      rfl
    · exfalso
      obtain ⟨x, o, nw, d, e, c, rfl, hx, ho, hn, fd, fe, fc, dp, _⟩ := h
      obtain ⟨z, ds, rfl, _⟩ := formed_shape fd
      simp [PyData.depth] at dp
  | n + 1, ln => by
    have nd := sc__law_put.nd
    have G := ok_lp T n (by omega)
    refine T.f_law_put.ok sc__law_put (fun vs H Q E h => ?_) (fun cdv A outer s H vs Q E hr h => ?_)
    · obtain ⟨x, o, nw, d, e, c, rfl, _⟩ := h
      rfl
    · obtain ⟨x, o, nw, d, e, c, rfl, hx, ho, hn, fd, fe, fc, dp, q⟩ := h
      refine ⟨_, (pss_cons (ps_if (pt_cmpR (op_eqF (room200 hr)) (pv 0) (pv 1) (nomark _)) (pss_one (ps_ret (pv 2))) pss_nil)
      (pss_one (ps_ret (pe_op op_catA (pe_slice sl_tupA (pv 0) po_none (po_some pe_int)) (pe_callTy call_tuple_of (by rfl) T.b_tuple (by decide +kernel) (pa_cons (pe_lc (own := [("part", 3)]) (g := (gName 3)) (tt := tYes) (by rfl) nd (pi_tup (pe_slice sl_tupA (pv 0) (po_some pe_int) po_none)) (blkOk_by (own := [("part", 3)]) (N := N__law_put) (sc := defScope s__law_put) (by decide +kernel)) (fun _ _ _ _ _ => pg_name (i := 3) nd rfl (.inl rfl)) (fun _ _ _ _ _ => pts_nil) (fun _ _ _ _ _ => (pe_call G (hr.mono (by omega)) (by rfl) T.g_law_put T.f_law_put.kp T.n_law_put .nil pass0 (pa_cons (pv 3) (pa_cons (pv 1) (pa_cons (pv 2) pa_nil)))))) pa_nil)))))), ?_⟩
      have pd := plain_formed d fd
      have pe' := plain_formed e fe
      have pc := plain_formed c fc
      refine ⟨_, rfl, _, rfl, d, e, hx.dp pd.hd, ho.dp pe'.hd, pd.lay, pe'.lay, by omega, _, rfl, ?_⟩
      cases ev : PyData.eqv d e with
      | true =>
        refine iteT ⟨_, rfl, q nw H (Same.refl H) ?_⟩
        have ed := (eqv_iff fd).mp ev
        obtain ⟨nm, ds, e1, _⟩ := formed_shape fd
        rw [e1] at ev ⊢
        rw [putD, if_pos ev]
        exact hn
      | false =>
        refine iteF ⟨_, rfl, ?_⟩
        dsimp only [tNoPart]
        refine ⟨1, rfl, ?_⟩
        obtain ⟨nm, ds, rfl, l3, hnm, hfa⟩ := formed_shape fd
        have ddp : PyData.depthAll ds ≤ n := by
          simp only [PyData.depth, PyData.depthAll] at dp
          omega
        refine sl_upto (S := []) (i := 1) (hx.up offs_nil) olds_nil fun y1 H1 s1 dy1 => ?_
        have dy1 := dy1.up OffS.all
        rw [show (PyData.str nm :: ds).take 1 = [.str nm] from rfl] at dy1
        refine ⟨_, rfl, 1, rfl, ?_⟩
        dsimp only [tNoPart]
        refine sl_from (S := []) (i := 1) ((hx.up s1).up offs_nil) olds_nil fun y H2 s2 dy => ?_
        have dy := dy.up OffS.all
        rw [List.drop_one, List.tail_cons] at dy
        have s12 := s1.trans s2
        cases dy with
        | @tup cc us _ hc hus =>
        have lus := hus.length
        refine ⟨cc, rfl, ⟨_, SqT.of hc⟩, fun D nD => ?_⟩
        have ncD : cc ≠ D := ne_of_none hc nD
        refine lc_tup (K := K) (a := cc) (xs := us) (fun i H3 => Same H2 H3 ∧ ∃ ys : List V, H3 D = some (.lst ys) ∧ ys.length = i ∧ DxAll K (OffS [D] H3) ys ((ds.take i).map (putD e c)))
          ⟨same_put nD, [], upd_same, rfl, .nil⟩ (fun i H3 _ h => SqT.of (h.1 _ _ hc)) ?_ ?_
        · rintro i y H3 hi ⟨s3, ys, eD, ly, dys⟩
          have lt : i < ds.length := by
            rw [← lus]
            exact (List.getElem?_eq_some_iff.mp hi).1
          have gd := List.getElem?_eq_getElem lt
          obtain ⟨v2, hv2, dv2⟩ := hus.get gd
          rw [hi] at hv2
          cases hv2
          refine ⟨rfl, (iteT (B := False) ?_ : if true = true then _ else False)⟩
          have s13 := s12.trans s3
          refine ⟨_, rfl, _, rfl, _, rfl, y, o, nw, ds[i], e, c, rfl, dv2.up s3, ho.up s13, hn.up s13, formedAll_get hfa gd, fe, fc, Nat.le_trans (depthAll_get gd) ddp, fun v H4 s4 dv => ?_⟩
          have eD4 := s4 _ _ eD
          have so : Same (OffS [D] H4) (OffS [D] (upd H4 D (.lst (ys ++ [v])))) := offs_but (ButL.put ButL.refl (List.mem_singleton_self _)) (fun b h1 h2 => absurd h1 h2)
          refine ⟨_, eD4, small1000 (by omega), fun b ob hb => ?_, ys ++ [v], upd_same, by rw [List.length_append, ly]; rfl, ?_⟩
          · rw [upd_ne (ne_of_none hb nD)]
            exact s4 _ _ (s3 _ _ hb)
          · rw [formed_get_map gd]
            refine DxAll.append (dys.up ((OffS.same s4).trans so)) (.cons ((dv.offL (S := [D]) (fun b hb => by rw [List.mem_singleton.mp hb]; exact ⟨_, eD4⟩) (plain_formed _ (put_formed e c fc _ (formedAll_get hfa gd))).nl).up so) .nil)
        · rintro H3 ⟨s3, ys, eD, ly, dys⟩
          rw [lus, List.take_length] at dys
          have lys : ys.length ≤ 3 := by omega
          refine ⟨D, ys, rfl, .inl ⟨.inl (.inl eD), fun t nt => ?_⟩⟩
          have st := same_put (o := .tup ys) nt
          have dall := dys.up OffS.all
          refine cat_tups (S := []) (((dy1.up s2).up (s3.trans st)).up offs_nil) ((Dx.tup (K := K) upd_same (dall.up st)).up offs_nil) olds_nil ?_ fun z H5 s5 dz => ?_
          · rw [List.length_map]
            exact Nat.le_of_lt (small1000 (by simp only [List.length_singleton]; omega))
          · refine q z H5 (s12.trans (s3.trans (st.trans s5))) ?_
            have dz := dz.up OffS.all
            rw [putD, if_neg (by rw [ev]; simp), putAll_map]
            exact dz
def spLo (K : PySem.W.Frag) (n : Nat) : Sp := fun vs H Q _ => ∃ (x : V) (a : Addr) (d : PyData) (m : List (Str × Str)), vs = [x, .ref a] ∧ Dx K H x d ∧ Rd H a (.dK (strD m)) ∧ (∀ x y, (x, y) ∈ m → isNm x = true ∧ isNm y = true) ∧ formedD d = true ∧ d.depth ≤ n ∧
  ∀ v H', Same H H' → Dx K H' v (renD (nmOf m) d) → Q v H'
theorem nmOf_nm {m : List (Str × Str)} (hm : ∀ x y, (x, y) ∈ m → isNm x = true ∧ isNm y = true) {x : Str} (h : isNm x = true) : isNm (nmOf m x) = true := by
  unfold nmOf look
  cases e : m.find? fun p => decide (p.1 = x) with
  | none => exact h
  | some p => exact (hm p.1 p.2 (List.mem_of_find?_eq_some e)).2
theorem ok_lo (T : Tx K mg) : ∀ n, FnOk P w K mg base CX0 (n + 1) T.a_law_other_names T.d_law_other_names ["term", "names"] (spLo K n)
  | 0 => by
    refine T.f_law_other_names.ok sc__law_other_names (fun vs H Q E h => ?_) (fun cdv A outer s H vs Q E hr h => ?_)
    · obtain ⟨x, a, d, m, rfl, _⟩ := h
      rfl
    · exfalso
      obtain ⟨x, a, d, m, rfl, hx, ha, hm, fd, dp, _⟩ := h
      obtain ⟨z, ds, rfl, _⟩ := formed_shape fd
      simp [PyData.depth] at dp
  | n + 1 => by
    have nd := sc__law_other_names.nd
    have G := ok_lo T n
    refine T.f_law_other_names.ok sc__law_other_names (fun vs H Q E h => ?_) (fun cdv A outer s H vs Q E hr h => ?_)
    · obtain ⟨x, a, d, m, rfl, _⟩ := h
      rfl
    · obtain ⟨x, a, d, m, rfl, hx, ha, hm, fd, dp, q⟩ := h
      have hu := hu_of hr
      refine ⟨_, (pss_cons (ps_setLc (i := 2) (own := [("part", 3)]) (g := (gName 3)) (tt := tYes) (by rfl) nd rfl rfl (sw_true rfl rfl rfl (by decide +kernel)) (pi_tup (pe_slice sl_tupA (pv 0) (po_some pe_int) po_none)) (blkOk_by (own := [("part", 3)]) (N := N__law_other_names) (sc := defScope s__law_other_names) (by decide +kernel)) (fun _ _ _ _ _ => pg_name (i := 3) nd rfl (.inl rfl)) (fun _ _ _ _ _ => pts_nil) (fun _ _ _ _ _ => (pe_call G (hr.mono (by omega)) (by rfl) T.g_law_other_names T.f_law_other_names.kp T.n_law_other_names .nil pass0 (pa_cons (pv 3) (pa_cons (pv 1) pa_nil)))))
      (pss_one (ps_ret (pe_op op_catA (pe_tup (pa_cons (pe_dget2 hu (pv 1) (pe_ix ix_tup (pv 0) pe_int (fun _ _ => rfl)) (pe_ix ix_tup (pv 0) pe_int (fun _ _ => rfl)) ⟨by rfl, by rfl, by rfl, by rfl⟩) pa_nil)) (pe_callTy call_tuple_of (by rfl) T.b_tuple (by decide +kernel) (pa_cons (pv 2) pa_nil)))))), ?_⟩
      obtain ⟨nm, ds, rfl, l3, hnm, hfa⟩ := formed_shape fd
      have ddp : PyData.depthAll ds ≤ n := by
        simp only [PyData.depth, PyData.depthAll] at dp
        omega
      have hx0 := hx
      cases hx with
      | @tup b xs _ hb hs =>
      cases hs with
      | @cons v0 vr _ _ h0 hws =>
      cases h0
      refine ⟨_, rfl, 1, rfl, ?_⟩
      dsimp only [tNoPart]
      refine sl_from (S := []) (i := 1) (hx0.up offs_nil) olds_nil fun y H2 s2 dy => ?_
      have dy := dy.up OffS.all
      rw [List.drop_one, List.tail_cons] at dy
      cases dy with
      | @tup cc us _ hc hus =>
      have lus := hus.length
      refine ⟨cc, rfl, ⟨_, SqT.of hc⟩, fun D nD => ?_⟩
      refine lc_tup (K := K) (a := cc) (xs := us) (fun i H3 => Same H2 H3 ∧ ∃ ys : List V, H3 D = some (.lst ys) ∧ ys.length = i ∧ DxAll K (OffS [D] H3) ys ((ds.take i).map (renD (nmOf m))))
        ⟨same_put nD, [], upd_same, rfl, .nil⟩ (fun i H3 _ h => SqT.of (h.1 _ _ hc)) ?_ ?_
      · rintro i y H3 hi ⟨s3, ys, eD, ly, dys⟩
        have lt : i < ds.length := by
          rw [← lus]
          exact (List.getElem?_eq_some_iff.mp hi).1
        have gd := List.getElem?_eq_getElem lt
        obtain ⟨v2, hv2, dv2⟩ := hus.get gd
        rw [hi] at hv2
        cases hv2
        refine ⟨rfl, (iteT (B := False) ?_ : if true = true then _ else False)⟩
        have s13 := s2.trans s3
        refine ⟨_, rfl, _, rfl, y, a, ds[i], m, rfl, dv2.up s3, rd_up s13 ha, hm, formedAll_get hfa gd, Nat.le_trans (depthAll_get gd) ddp, fun v H4 s4 dv => ?_⟩
        have eD4 := s4 _ _ eD
        have so : Same (OffS [D] H4) (OffS [D] (upd H4 D (.lst (ys ++ [v])))) := offs_but (ButL.put ButL.refl (List.mem_singleton_self _)) (fun b h1 h2 => absurd h1 h2)
        refine ⟨_, eD4, small1000 (by omega), fun b ob hb => ?_, ys ++ [v], upd_same, by rw [List.length_append, ly]; rfl, ?_⟩
        · rw [upd_ne (ne_of_none hb nD)]
          exact s4 _ _ (s3 _ _ hb)
        · rw [formed_get_map gd]
          refine DxAll.append (dys.up ((OffS.same s4).trans so)) (.cons ((dv.offL (S := [D]) (fun b hb => by rw [List.mem_singleton.mp hb]; exact ⟨_, eD4⟩) (plain_formed _ (ren_formed (nmOf m) (fun x h => nmOf_nm hm h) _ (formedAll_get hfa gd))).nl).up so) .nil)
      · rintro H3 ⟨s3, ys, eD, ly, dys⟩
        rw [lus, List.take_length] at dys
        have lys : ys.length ≤ 3 := by omega
        have s13 := s2.trans s3
        have ha3 := rd_up s13 ha
        have hb3 := s13 _ _ hb
        refine ⟨_, rfl, a, rfl, .inl ⟨_, ha3⟩, _, rfl, b, _, 0, _, rfl, rfl, SqT.of hb3, atI_nat (j := 0) rfl, _, rfl, b, _, 0, _, rfl, rfl, SqT.of hb3, atI_nat (j := 0) rfl, _, .inl ⟨strD m, .inr nm, ha3, rfl, rfl⟩, (by show 1 ≤ sizeLine; decide), fun p np => ?_⟩
        rw [val_strD, look_getD]
        have sp := same_put (o := .tup [V.str (nmOf m nm)]) np
        refine ⟨_, rfl, D, ys, rfl, .inl ⟨.inl (.inl (sp _ _ eD)), fun t nt => ?_⟩⟩
        have st := same_put (o := .tup ys) nt
        have dall := dys.up OffS.all
        refine cat_tups (S := []) (((Dx.tup (K := K) (upd_same (H := H3)) (.cons (.str _) .nil)).up st).up offs_nil) ((Dx.tup (K := K) upd_same (dall.up (sp.trans st))).up offs_nil) olds_nil ?_ fun z H5 s5 dz => ?_
        · rw [List.length_map]
          exact Nat.le_of_lt (small1000 (by simp only [List.length_singleton]; omega))
        · refine q z H5 (s13.trans (sp.trans (st.trans s5))) ?_
          have dz := dz.up OffS.all
          rw [renD, renAll_map]
          exact dz
end
end K03
/-! How many different ones. -/
namespace K03
open PySem PySem.Spec PyProof.Rows L2 Kx
section
variable {α β : Type} [DecidableEq α] [DecidableEq β]
/-- the different ones -/
def und : List α → List α
  | [] => []
  | x :: l => if x ∈ l then und l else x :: und l
theorem mem_und : ∀ (l : List α) (x : α), x ∈ und l ↔ x ∈ l
  | [], x => by simp [und]
  | y :: l, x => by
    unfold und
    have ih := mem_und l x
    split
    · rename_i h
      rw [ih, List.mem_cons]
      constructor
      · exact .inr
      · rintro (rfl | h2)
        · exact h
        · exact h2
    · rw [List.mem_cons, List.mem_cons, ih]
theorem und_nodup : ∀ l : List α, (und l).Nodup
  | [] => List.nodup_nil
  | y :: l => by
    unfold und
    split
    · exact und_nodup l
    · rename_i h
      exact List.nodup_cons.mpr ⟨fun e => h ((mem_und l y).mp e), und_nodup l⟩
theorem und_len : ∀ l : List α, (und l).length = Kx.cnt l
  | [] => rfl
  | y :: l => by
    unfold und Kx.cnt
    split
    · exact und_len l
    · rw [List.length_cons, und_len l]
theorem cnt_inj {f : α → β} (hf : ∀ a b, f a = f b → a = b) : ∀ l : List α, Kx.cnt (l.map f) = Kx.cnt l
  | [] => rfl
  | y :: l => by
    have e : f y ∈ l.map f ↔ y ∈ l := by
      rw [List.mem_map]
      constructor
      · rintro ⟨a, ha, h⟩
        rw [← hf _ _ h]
        exact ha
      · exact fun h => ⟨y, h, rfl⟩
    rw [List.map_cons]
    unfold Kx.cnt
    simp only [e]
    rw [cnt_inj hf l]
end
theorem cnt_fst_le : ∀ l : List NK, Kx.cnt (l.map Prod.fst) ≤ Kx.cnt l
  | [] => Nat.le_refl _
  | y :: l => by
    have ih := cnt_fst_le l
    rw [List.map_cons]
    unfold Kx.cnt
    by_cases h : y ∈ l
    · have : y.1 ∈ l.map Prod.fst := List.mem_map.mpr ⟨y, h, rfl⟩
      rw [if_pos h, if_pos this]
      exact ih
    · rw [if_neg h]
      split <;> omega
theorem cnt_func : ∀ l : List NK, Kx.cnt l = Kx.cnt (l.map Prod.fst) ↔ Func l
  | [] => by simp [Kx.cnt, Func]
  | y :: l => by
    have ih := cnt_func l
    have le := cnt_fst_le l
    rw [List.map_cons]
    unfold Kx.cnt
    by_cases h : y ∈ l
    · have h2 : y.1 ∈ l.map Prod.fst := List.mem_map.mpr ⟨y, h, rfl⟩
      rw [if_pos h, if_pos h2, ih]
      refine Func.congr fun p => ?_
      rw [List.mem_cons]
      constructor
      · exact .inr
      · rintro (rfl | h3)
        · exact h
        · exact h3
    · rw [if_neg h]
      by_cases h2 : y.1 ∈ l.map Prod.fst
      · rw [if_pos h2]
        constructor
        · intro e
          omega
        · intro f
          exfalso
          obtain ⟨z, hz, e⟩ := List.mem_map.mp h2
          have := f y List.mem_cons_self z (List.mem_cons_of_mem _ hz) e.symm
          refine h ?_
          have : y = z := Prod.ext e.symm this
          rw [this]
          exact hz
      · rw [if_neg h2]
        have e1 : Kx.cnt l + 1 = Kx.cnt (l.map Prod.fst) + 1 ↔ Kx.cnt l = Kx.cnt (l.map Prod.fst) := by omega
        rw [e1, ih]
        constructor
        · intro f p hp q hq e
          rcases List.mem_cons.mp hp with rfl | hp
          · rcases List.mem_cons.mp hq with rfl | hq
            · rfl
            · exact absurd (List.mem_map.mpr ⟨q, hq, e.symm⟩) h2
          · rcases List.mem_cons.mp hq with hq | hq
            · rw [hq] at e
              exact absurd (List.mem_map.mpr ⟨p, hp, e⟩) h2
            · exact f p hp q hq e
        · exact fun f p hp q hq e => f p (List.mem_cons_of_mem _ hp) q (List.mem_cons_of_mem _ hq) e
/-- a name with its places, as a key -/
def rowK (p : NK) : List Key := [.inr p.1, .inl ((p.2 + 1 : Nat) : Int)]
theorem rowK_inj (p q : NK) (h : rowK p = rowK q) : p = q := by
  unfold rowK at h
  injection h with h1 h2
  injection h2 with h2 _
  injection h1 with h1
  injection h2 with h2
  exact Prod.ext h1 (Nat.succ.inj (Int.ofNat.inj h2))
/-- len of a sequence -/
abbrev rLenS (K : PySem.W.Frag) : List V → Hp → VK → Prop := fun xs H Q => ∃ p ys, xs = [.ref p] ∧ (SqL K H p ys ∨ SqT K H p ys) ∧ Q (.int ys.length) H
end K03
/-! Whether each name of a term has one number of places. -/
namespace K03
open PySem PySem.Spec PyProof.Rows L2 Kx
theorem cnt_same {α : Type} [DecidableEq α] {l m : List α} (h : ∀ x, x ∈ l ↔ x ∈ m) : Kx.cnt l = Kx.cnt m := by
  rw [← und_len, ← und_len]
  exact nodup_same (und_nodup l) (und_nodup m) fun x => by rw [mem_und, mem_und, h]
theorem cnt_sub {α : Type} [DecidableEq α] {l m : List α} (h : ∀ x, x ∈ l → x ∈ m) : Kx.cnt l ≤ m.length := by
  rw [← und_len]
  exact nodup_le m (und l) (und_nodup l) fun x hx => h x ((mem_und l x).mp hx)
section
variable {P : Program} {w : World} {K : PySem.W.Frag} {mg : Str → Option Value} {base : Heap}
def spIl (K : PySem.W.Frag) (n : Nat) : Sp := fun vs H Q _ => ∃ (x : V) (d : PyData), vs = [x] ∧ Dx K H x d ∧ formedD d = true ∧ d.depth ≤ n ∧ (preD d).length ≤ 990 ∧ Kx.cnt (rowsD d) < 64 ∧ ∀ H', Same H H' → Q (.bl (termD d)) H'
theorem ok_il (T : Tx K mg) (n : Nat) (ln : n ≤ 100) : FnOk P w K mg base CX0 (n + 2) T.a_law_is_like T.d_law_is_like ["term"] (spIl K n) := by
  have nd := sc__law_is_like.nd
  have G2 := ok_bl (P := P) (w := w) (base := base) T n
  refine T.f_law_is_like.ok sc__law_is_like (fun vs H Q E h => ?_) (fun cdv A outer s H vs Q E hr h => ?_)
  · obtain ⟨x, d, rfl, _⟩ := h
    rfl
  · obtain ⟨x, d, rfl, dv, ef, dpt, lpre, few, q⟩ := h
    refine ⟨_, (pss_cons (ps_setLc (i := 1) (own := [("part", 2)]) (g := (gName 2)) (tt := tYes) (by rfl) nd rfl rfl (sw_true rfl rfl rfl (by decide +kernel)) (pi_list (pe_call G2 (hr.mono (by omega)) (by rfl) T.g_law_below T.f_law_below.kp T.n_law_below .nil pass0 (pa_cons (pv 0) pa_nil))) (blkOk_by (own := [("part", 2)]) (N := N__law_is_like) (sc := defScope s__law_is_like) (by decide +kernel)) (fun _ _ _ _ _ => pg_name (i := 2) nd rfl (.inl rfl)) (fun _ _ _ _ _ => pts_nil) (fun _ _ _ _ _ => (pe_tup (pa_cons (pe_ix (r := rIxT K) ix_tup (pv 2) pe_int (fun _ _ => rfl)) (pa_cons (pe_callB (r := rLenS K) call_len_seq (by rfl) T.b_len PySem.boot_len (pa_cons (pv 2) pa_nil)) pa_nil)))))
      (pss_one (ps_ret (pe_cmpR op_eq (pe_lenSetG (F := Few) (fun _ h => h) (by rfl) (by rfl) T.b_len (by rfl) T.b_set (pv 1) hr.units) (pe_lenSetT (by rfl) (by rfl) T.b_len (by rfl) T.b_set (pe_lc (own := [("row", 3)]) (g := (gName 3)) (tt := tYes) (by rfl) nd (pi_list (pv 1)) (blkOk_by (own := [("row", 3)]) (N := N__law_is_like) (sc := defScope s__law_is_like) (by decide +kernel)) (fun _ _ _ _ _ => pg_name (i := 3) nd rfl (.inl rfl)) (fun _ _ _ _ _ => pts_nil) (fun _ _ _ _ _ => (pe_ix (r := rIxT K) ix_tup (pv 3) pe_int (fun _ _ => rfl))))) (nomark _))))), ?_⟩
    refine ⟨_, rfl, x, d, rfl, dv, ef, dpt, by omega, fun p H2 ys sm2 np ep dys => ?_⟩
    have lys := dys.length
    have lb := bel_len d
    have fb := bel_formed d ef
    refine ⟨p, rfl, ⟨_, .inl (.inl ep)⟩, fun D nD => ?_⟩
    refine lc_list (K := K) (a := p) (xs := ys) (fun i H3 => Same H2 H3 ∧ ∃ ks : List Kx.Row, H3 D = some (.lst (ks.map fun r => V.ref r.1)) ∧ ks.map Prod.snd = ((belD d).take i).map (fun e => rowK (rowD e)) ∧ ∀ r, r ∈ ks → H3 r.1 = some (.tup (r.2.map kV)))
      ⟨same_new nD, [], upd_same, by simp, fun r h => (nomatch h)⟩ (fun i H3 _ h => .inl (.inl (h.1 _ _ ep))) ?_ ?_
    · rintro i y H3 hi ⟨sm3, ks, eD, ek, hk⟩
      have lt : i < (belD d).length := by
        rw [← lys]
        exact (List.getElem?_eq_some_iff.mp hi).1
      have gd := at_of lt
      obtain ⟨v2, hv2, dv2⟩ := dys.get gd
      rw [hi] at hv2
      cases hv2
      have lk : ks.length = i := by
        have := congrArg List.length ek
        simp only [List.length_map, List.length_take] at this
        omega
      obtain ⟨nm, es, ee, l3, hnm, hfa⟩ := formed_shape (fb _ (List.mem_of_getElem? gd))
      have er : rowK (rowD ((belD d)[i])) = [.inr nm, .inl ((es.length + 1 : Nat) : Int)] := by rw [ee]; rfl
      rw [ee] at dv2
      cases dv2 with
      | @tup b xs _ hb hs =>
      cases hs with
      | @cons v0 vr _ _ h0 hws =>
      cases h0
      have lvr := hws.length
      have tz := sm3 _ _ hb
      refine ⟨rfl, (iteT (B := False) ?_ : if true = true then _ else False)⟩
      refine ⟨_, rfl, b, _, 0, .str nm, rfl, rfl, SqT.of tz, atI_nat (j := 0) rfl, _, rfl, b, _, rfl, .inr (SqT.of tz), (by show 2 ≤ sizeLine; decide), fun c nc => ?_⟩
      have ncD : D ≠ c := ne_of_none eD nc
      refine ⟨ks.map fun r => V.ref r.1, by rw [upd_ne ncD]; exact eD, by rw [List.length_map]; exact small1000 (by omega), fun b o hb => ?_, ks ++ [(c, rowK (rowD ((belD d)[i])))], by rw [upd_same, List.map_append]; rfl, ?_, fun r hr => ?_⟩
      · rw [upd_ne (ne_of_none hb nD)]
        exact same_new nc b o (sm3 b o hb)
      · rw [List.map_append, ek, List.take_add_one, gd, Option.toList_some, List.map_append, List.map_singleton, List.map_singleton]
      · rcases List.mem_append.mp hr with h | h
        · have := hk r h
          rw [upd_ne (ne_of this eD (fun e => nomatch e)), upd_ne (ne_of_none this nc)]
          exact this
        · rw [List.mem_singleton.mp h, upd_ne ncD.symm, upd_same, er]
          rw [List.length_cons, lvr]
          rfl
    · rintro H3 ⟨sm3, ks, eD, ek, hk⟩
      rw [lys, List.take_length] at ek
      have lk : ks.length = (belD d).length := by
        have := congrArg List.length ek
        simpa only [List.length_map] using this
      have ek2 : keysK ks = ((belD d).map rowD).map rowK := by rw [keysK, ek, List.map_map]; rfl
      have pm := bel_rows d ef
      have cq : Kx.cnt (keysK ks) = Kx.cnt (rowsD d) := by
        rw [ek2, cnt_inj rowK_inj]
        exact cnt_same fun r => pm.mem_iff
      refine ⟨_, rfl, D, ks, rfl, .inl (.inl eD), fun r hr => SqT.of (hk r hr), fun D' h1 h2 => ?_, fun m hm => ?_⟩
      · have z := nodup_le (und (keysK ks)) D' h1 fun k hk2 => (mem_und _ _).mpr (h2 k hk2)
        rw [und_len, cq] at z
        omega
      refine ⟨_, rfl, D, rfl, ⟨_, .inl (.inl eD)⟩, fun E nE => ?_⟩
      refine lc_list (K := K) (a := D) (xs := ks.map fun r => V.ref r.1) (fun i H4 => Same H3 H4 ∧ H4 E = some (.lst ((((belD d).take i).map fun e => (rowD e).1).map V.str)))
        ⟨same_new nE, by rw [upd_same]; simp⟩ (fun i H4 _ h => .inl (.inl (h.1 _ _ eD))) ?_ ?_
      · rintro i y H4 hi ⟨sm4, eE⟩
        rw [List.getElem?_map] at hi
        obtain ⟨r, hr, rfl⟩ := Option.map_eq_some_iff.mp hi
        have lt : i < (belD d).length := by
          rw [← lk]
          exact (List.getElem?_eq_some_iff.mp hr).1
        have e2 := congrArg (fun l => l[i]?) ek
        simp only [List.getElem?_map, hr, at_of lt, Option.map_some] at e2
        have tz := sm4 _ _ (hk r (List.mem_of_getElem? hr))
        rw [Option.some.inj e2] at tz
        refine ⟨rfl, (iteT (B := False) ?_ : if true = true then _ else False)⟩
        refine ⟨_, rfl, r.1, _, 0, .str (rowD (belD d)[i]).1, rfl, rfl, SqT.of tz, atI_nat (j := 0) rfl, _, eE, ?_, fun b o hb => ?_, ?_⟩
        · rw [List.length_map, List.length_map, List.length_take]
          exact small1000 (by omega)
        · rw [upd_ne (ne_of_none hb nE)]
          exact sm4 b o hb
        · rw [upd_same, List.take_add_one, at_of lt, Option.toList_some, List.map_append, List.map_append]
          rfl
      · rintro H4 ⟨sm4, eE⟩
        rw [List.length_map, lk, List.take_length] at eE
        refine ⟨E, (belD d).map fun e => (rowD e).1, rfl, .inl (.inl eE), by rw [List.length_map]; omega, ?_⟩
        have smA : Same H H4 := sm2.trans (sm3.trans sm4)
        have m1 : m = Kx.cnt (rowsD d) := by rw [← hm (und (keysK ks)) (und_nodup _) (mem_und _), und_len, cq]
        have m2 : Kx.cnt ((belD d).map fun e => (rowD e).1) = Kx.cnt ((rowsD d).map Prod.fst) := cnt_same fun z => by
          have : (belD d).map (fun e => (rowD e).1) = ((belD d).map rowD).map Prod.fst := by rw [List.map_map]; rfl
          rw [this]
          exact (pm.map Prod.fst).mem_iff
        rw [m2, m1]
        have e3 : termD d = decide ((Kx.cnt (rowsD d) : Int) = (Kx.cnt ((rowsD d).map Prod.fst) : Int)) := by
          rw [termD, ef, Bool.true_and]
          refine decide_eq_decide.mpr ?_
          rw [Int.ofNat_inj, cnt_func]
        have e4 : ∀ a b : Int, decide (V.int a = V.int b) = decide (a = b) := fun a b => decide_eq_decide.mpr ⟨fun h => V.int.inj h, fun h => by rw [h]⟩
        rw [← e4] at e3
        refine ⟨rfl, ?_⟩
        rw [← e3]
        exact q H4 smA
end
end K03
/-! sorted(set(xs)), xs a list of texts: each text once. -/
namespace Kx
open PySem PySem.Spec PyProof.Rows L2
def txtOf (e : Int × Value) : Str := match e.2 with | .str x _ => x | _ => Str.empty
/-- an entry of a text -/
def TxE (w : World) (e : Int × Value) : Prop := ∃ x tk, e.2 = Value.str x tk ∧ e.1 = hashStr w x
/-- the set of the texts L at a, as it can be walked -/
structure SetT (w : World) (h : Heap) (a : Addr) (L : List Str) : Prop where
  nd : L.Nodup
  ex : ∃ o es ep t, h.get? a = some o ∧ o.ExactSet ∧ o.data = .set es ep t ∧ (∀ e ∈ es.toList, TxE w e) ∧ (es.toList.map txtOf).Perm L ∧ es.size < scanBound ∧ t.fits es.size = true ∧ Ris t.place.toList ∧ (w.params.followText "set-order" = true ∨ t.led = true)
section
variable {P : Program} {w : World} {A : Around} {E : Value → Shared → Prop} {s : Shared} {a : Addr} {L : List Str}
theorem SetT.kept {h h' : Heap} (R : SetT w h a L) (k : ∀ o, h.get? a = some o → h'.get? a = some o) : SetT w h' a L := by
  obtain ⟨nd, o, es, ep, t, ho, r⟩ := R
  exact ⟨nd, o, es, ep, t, k o ho, r⟩
theorem txE_is {e : Int × Value} (h : TxE w e) (k : Str) : (strKind P w).is k e.2 = true ↔ txtOf e = k := by
  obtain ⟨x, tk, e2, _⟩ := h
  unfold txtOf
  rw [e2]
  show ((x == k) = true) ↔ x = k
  exact beq_iff_eq
theorem txE_elems {l : List (Int × Value)} (g : ∀ e ∈ l, TxE w e) : ElemsOf (strKind P w) l := fun e he => by
  obtain ⟨x, tk, e2, e1⟩ := g e he
  exact ⟨⟨x, by rw [e2]; exact strKind_is P w x tk, e1⟩, by rw [e2] <;> rfl⟩
/-- the entries and the table are stored, and laid anew where it is too full -/
theorem storeT {g : Bool → Sem Unit} (hg : ∀ (b : Bool) (z : Shared) (Q' : Unit → Shared → Prop), Q' () z → wpAny (model P w) A (g b) Q' E z) {o : Obj} {es : Array (Int × Value)} {ep : Nat} {t : SetTable} (ho : s.heap.get? a = some o) (hex : o.ExactSet)
    (hd : o.data = .set es ep t) {es1 : Array (Int × Value)} {t1 : SetTable} (nd : L.Nodup) (c1 : ∀ e ∈ es1.toList, TxE w e) (c2 : (es1.toList.map txtOf).Perm L) (c3 : es1.size < scanBound) (c4 : t1.fits es1.size = true) (c5 : Ris t1.place.toList)
    (c6 : w.params.followText "set-order" = true ∨ t1.led = true) {was : Bool} {R : Option Bool → Shared → Prop} (fin : ∀ h', Heap.SameBut a s.heap h' → SetT w h' a L → R (some true) { s with heap := h' }) :
    wpAny (model P w) A (do
      storeSet a es1 t1
      if (!was && t1.tooFull) = true then do
        g (relayAll t1 es1 (SetTable.grown es1.size)).2.2
        storeSet a (relayAll t1 es1 (SetTable.grown es1.size)).1 (relayAll t1 es1 (SetTable.grown es1.size)).2.1
        pure (some true)
      else pure (some true)) R E s := by
  apply wpAny_bind (wpAny_storeSet_of ho hd _ (fits_of_scanBound c3))
  have o1 := L2.store_at (es' := es1) (t' := t1) ho hd
  have b1 := Heap.SameBut.update s.heap a (Obj.putSet es1 t1)
  by_cases full : (!was && t1.tooFull) = true
  · rw [if_pos full]
    have d1 := relayAll_perm t1 es1 (SetTable.grown es1.size)
    have d2 := relayAll_fits t1 es1 (SetTable.grown es1.size)
    have d3 := (relayAll_ris t1 es1 (SetTable.grown es1.size))
    have d4 := (relayAll_led t1 es1 (SetTable.grown es1.size))
    generalize relayAll t1 es1 (SetTable.grown es1.size) = Z at d1 d2 d3 d4 ⊢
    obtain ⟨es2, t2, gave⟩ := Z
    dsimp only at d1 d2 d3 d4 ⊢
    have sz : es2.size = es1.size := by
      have := d1.length_eq
      simpa using this
    apply wpAny_bind (hg _ _ _ _)
    apply wpAny_bind (wpAny_storeSet_of o1 rfl _ (fits_of_scanBound (by rw [sz]; exact c3)))
    have o2 := L2.store_at (es' := es2) (t' := t2) o1 rfl
    exact wpAny_pure (fin _ (b1.trans (Heap.SameBut.update _ a _)) ⟨nd, _, es2, _, t2, o2, hex, rfl, fun e he => c1 e (d1.mem_iff.mp he), (d1.map txtOf).trans c2, by rw [sz]; exact c3, d2, d3, c6.imp id fun z => by rw [d4]; exact z⟩)
  · rw [if_neg full]
    exact wpAny_pure (fin _ b1 ⟨nd, _, es1, _, t1, o1, hex, rfl, c1, c2, c3, c4, c5, c6⟩)
theorem addT {x : Str} {tk : Tok} {Q : Bool → Shared → Prop} (R : SetT w s.heap a L) (room : L.length + 1 < scanBound) (hQ : ∀ b h', Heap.SameBut a s.heap h' → SetT w h' a (if x ∈ L then L else x :: L) → Q b { s with heap := h' }) :
    wpAny (model P w) A (setAddHashed a (.str x tk) ((strKind P w).hash x)) Q E s := by
  obtain ⟨nd, o, es, ep, t, ho, hex, hd, c1, c2, c3, c4, c5, c6⟩ := R
  have isx : (strKind P w).is x (.str x tk) = true := strKind_is P w x tk
  have sc : (Value.str x tk).scannable = true := rfl
  have el : ElemsOf (strKind P w) es.toList := txE_elems c1
  have lsz : es.size = L.length := by
    have := c2.length_eq
    simpa using this
  unfold setAddHashed setAddHashedIn
  refine wpAny_holding (wpAny_bind (wpAny_setState_of ho hd c4 ?_))
  dsimp only
  rw [byScan_of sc c3 el, if_pos rfl]
  unfold setAddByScan
  refine wpAny_bind (wpAny_bind (wpAny_rule (wpAny_bind (wpAny_setScan_of isx ho hd c4 el ?_))))
  have memL : x ∈ L ↔ ∃ e ∈ es.toList, (strKind P w).is x e.2 = true := by
    rw [← c2.mem_iff, List.mem_map]
    exact ⟨fun ⟨e, he, q⟩ => ⟨e, he, (txE_is (c1 e he) x).mpr q⟩, fun ⟨e, he, q⟩ => ⟨e, he, (txE_is (c1 e he) x).mp q⟩⟩
  cases hf : List.findIdx? (fun e => (strKind P w).is x e.2) es.toList with
  | some j =>
    dsimp only
    obtain ⟨hj, pj, _⟩ := List.findIdx?_eq_some_iff_getElem.mp hf
    have xL : x ∈ L := memL.mpr ⟨_, List.getElem_mem hj, pj⟩
    refine wpAny_pure (wpAny_pure (hQ _ s.heap (Heap.SameBut.refl a s.heap) ?_))
    rw [if_pos xL]
    exact ⟨nd, o, es, ep, t, ho, hex, hd, c1, c2, c3, c4, c5, c6⟩
  | none =>
    dsimp only
    have xL : x ∉ L := fun z => by
      obtain ⟨e, he, q⟩ := memL.mp z
      rw [List.findIdx?_eq_none_iff.mp hf e he] at q
      cases q
    have d1 := layNew_perm t es ((strKind P w).hash x) (.str x tk)
    have d2 := layNew_fits t es ((strKind P w).hash x) (.str x tk)
    have d3 := layNew_ris t es ((strKind P w).hash x) (.str x tk) c5
    have d4 := layNew_led t es ((strKind P w).hash x) (.str x tk)
    generalize layNew t es ((strKind P w).hash x) (.str x tk) = Z at d1 d2 d3 d4 ⊢
    obtain ⟨es1, t1, was, gave⟩ := Z
    dsimp only at d1 d2 d3 d4 ⊢
    rw [Array.toList_push] at d1
    have pc : es1.toList.Perm (((strKind P w).hash x, Value.str x tk) :: es.toList) := d1.trans (List.perm_append_singleton _ _)
    have f1 : ∀ e ∈ es1.toList, TxE w e := fun e he => by
      rcases List.mem_cons.mp (pc.mem_iff.mp he) with z | z
      · rw [z]
        exact ⟨x, tk, rfl, rfl⟩
      · exact c1 e z
    have f2 : (es1.toList.map txtOf).Perm (x :: L) := (pc.map txtOf).trans (c2.cons x)
    have sz1 : es1.size = L.length + 1 := by
      have := f2.length_eq
      simpa using this
    have nd1 : (x :: L).Nodup := List.nodup_cons.mpr ⟨xL, nd⟩
    have c61 : w.params.followText "set-order" = true ∨ t1.led = true := c6.imp id fun z => by rw [d4]; exact z
    have fin : ∀ h', Heap.SameBut a s.heap h' → SetT w h' a (x :: L) → Q true { s with heap := h' } := fun h' sb r => hQ _ h' sb (by rw [if_neg xL]; exact r)
    have gw : ∀ (b : Bool) {z : Shared} {Q' : Unit → Shared → Prop}, Q' () z → wpAny (model P w) A (match b with | true => rule "set.scan.the-table-gave-way" | false => pure ()) Q' E z := fun b z Q' q => by
      cases b with
      | true => exact wpAny_rule q
      | false => exact wpAny_pure q
    refine wpAny_bind (gw _ ?_)
    split
    · rw [hashByValue_scannable 8 sc]
      refine wpAny_bind (wpAny_pure ?_)
      refine storeT (fun b z Q' q => gw b q) ho hex hd nd1 f1 f2 (by rw [sz1]; exact room) ?_ ?_ ?_ ?_
      · first | (split <;> first | exact d2 | exact SetTable.fits_plain_off d2) | exact d2
      · first | (split <;> exact d3) | exact d3
      · first | (split <;> exact c61) | exact c61
      · exact fun h' sb r => wpAny_pure (fin h' sb r)
    · refine wpAny_bind (wpAny_pure ?_)
      rw [if_pos rfl]
      exact storeT (fun b z Q' q => gw b q) ho hex hd nd1 f1 f2 (by rw [sz1]; exact room) d2 d3 c61 fun h' sb r => wpAny_pure (fin h' sb r)
end
end Kx
namespace Kx
open PySem PySem.Spec PyProof.Rows L2
section
variable {P : Program} {w : World} {A : Around} {E : Value → Shared → Prop} {s : Shared} {a : Addr} {L : List Str}
/-- the loop of set.update over texts -/
theorem loopT {I : Addr} {fp wr : List Addr} {G : Array GenState → Array GenState → Prop} {n : Nat} {Pv : Nat → Value → Prop} {St : Nat → Shared → Prop} {R : Result → Shared → Prop} (W : WalksS P w A.in1 I fp wr G n Pv St) (S : Addr) (nS : S ∉ fp) (xs : List Str)
    (hn : n = xs.length) (few : xs.length < 4000) (val : ∀ i v, Pv i v → ∃ x t, xs[i]? = some x ∧ v = .str x t) (g0 : Heap) (n0 : g0.get? S = none) (w0 : ∀ b, b ∈ wr → g0.get? b = none) :
    ∀ (m i : Nat) (s : Shared), n - i = m → i ≤ n → St i s → (∀ b o, g0.get? b = some o → s.heap.get? b = some o) → (∃ L, SetT w s.heap S L ∧ L.length ≤ i ∧ ∀ z, z ∈ L ↔ z ∈ xs.take i) →
      (∀ s' L, Moved (S :: wr) G s s' → SetT w s'.heap S L → (∀ z, z ∈ L ↔ z ∈ xs) → (∀ b o, g0.get? b = some o → s'.heap.get? b = some o) → R (.ok (.ret .none)) s') →
      codeAny (model P w) A (.builtin "set.update.loop" ⟨[.ref S, .ref I], []⟩) R s := by
  have sw : S ∉ wr := fun h => nS (W.sub _ h)
  have up : ∀ b, b ∈ wr → b ∈ S :: wr := fun b hb => List.mem_cons_of_mem _ hb
  have kp : ∀ {z z' : Shared}, Moved wr G z z' → (∀ b o, g0.get? b = some o → z.heap.get? b = some o) → ∀ b o, g0.get? b = some o → z'.heap.get? b = some o := fun hm h b o e =>
    hm.heap b o (fun hb => by rw [w0 b hb] at e; cases e) (h b o e)
  intro m
  induction m with
  | zero =>
    rintro i s hm hi hst hkp ⟨L, hL, lL, mL⟩ hR
    obtain rfl : i = n := by omega
    apply codeAny_builtin F.entry_set_update_loop
    rw [Around.under_plainId F.plain_set_update_loop _]
    apply wpAny_bind (m := pyNext (.ref I)) (W.done s _ _ hst _)
    intro z mv
    rw [hn, List.take_length] at mL
    exact wpAny_pure (hR z L (mv.mono up) (hL.kept fun o e => mv.heap S o sw e) mL (kp mv hkp))
  | succ m ih =>
    rintro i s hm hi hst hkp ⟨L, hL, lL, mL⟩ hR
    have lt : i < n := by omega
    apply codeAny_builtin F.entry_set_update_loop
    rw [Around.under_plainId F.plain_set_update_loop _]
    apply wpAny_bind (m := pyNext (.ref I)) (W.item i s _ _ lt hst _)
    intro v z hP hst' mv
    obtain ⟨x, t, hx, rfl⟩ := val i v hP
    have k2 := kp mv hkp
    have hL' := hL.kept fun o e => mv.heap S o sw e
    apply wpAny_bind (m := holding [Value.str x t] (setAdd S (.str x t))) (wpAny_holding _)
    unfold setAdd
    apply wpAny_holding
    apply wpAny_bind ((PySem.strKind P w).pyHash (k := x) (strKind_is _ _ _ _) _)
    apply addT (s := { z with toks := z.toks + 1 }) hL' (by unfold scanBound; omega)
    intro b h' sb hL2
    have k3 : ∀ b o, g0.get? b = some o → h'.get? b = some o := fun b o e => (sb.2 b (fun z => by rw [z, n0] at e; cases e)).trans (k2 b o e)
    have fr := W.frame (i + 1) z h' (z.toks + 1) hst' (Nat.le_add_right _ _) fun b hb o e => by
      rw [sb.2 b (fun h : b = S => nS (by rw [← h]; exact hb))]
      exact e
    have m2 : ∀ y, y ∈ (if x ∈ L then L else x :: L) ↔ y ∈ xs.take (i + 1) := fun y => by
      rw [take_one hx, List.mem_append, ← mL, List.mem_singleton]
      split
      · rename_i h
        exact ⟨.inl, fun q => q.elim id fun e => by rw [e]; exact h⟩
      · rw [List.mem_cons]
        exact Or.comm
    have l2 : (if x ∈ L then L else x :: L).length ≤ i + 1 := by
      split
      · omega
      · rw [List.length_cons]
        omega
    apply wpAny_pure
    refine ⟨plainId_quiet F.plain_set_update_loop _, ih (i + 1) _ (by omega) lt fr k3 ⟨_, hL2, l2, m2⟩ fun z2 L3 mv2 hL3 m3 k4 => hR z2 L3 (Moved.trans W.gtrans ((mv.mono up).then_heap (Nat.le_add_right _ _) fun b o hb e => ?_) mv2) hL3 m3 k4⟩
    rw [sb.2 b fun h => hb (by rw [h]; exact List.mem_cons_self)]
    exact e
theorem call_setT {l : Addr} {its : Array Value} (xs : List Str) {Q : Value → Shared → Prop} (hh : A.handled = none) (hl : s.heap.IsList l its) (hi : PyProof.Rows.StrsAre its.toList xs) (few : xs.length < 4000)
    (q : ∀ (h' : Heap) (tk : Nat) L, SetT w h' s.heap.objs.size L → (∀ z, z ∈ L ↔ z ∈ xs) → (∀ b o, s.heap.get? b = some o → h'.get? b = some o) → Q (.ref s.heap.objs.size) { s with heap := h', toks := tk }) :
    wpAny (model P w) A (call (.type "set") [.ref l]) Q E s := by
  have isz : its.size = xs.length := by rw [← StrsAre.len_eq hi, Array.length_toList]
  refine call_set_gen (fun h' => ∃ L, SetT w h' s.heap.objs.size L ∧ ∀ z, z ∈ L ↔ z ∈ xs) hl ⟨?_⟩ ⟨fun h' tk ⟨L, hL, mL⟩ k => q h' tk L hL mL k⟩
  intro led R hled hR
  have n1 : (s.heap.push (set0 led)).objs.size = s.heap.objs.size + 1 := Heap.size_push ..
  have g1 : (s.heap.push (set0 led)).get? s.heap.objs.size = some (set0 led) := Heap.get?_push_size _ rfl
  have hl1 := hl.push (set0 led)
  have ls : l < s.heap.objs.size := let ⟨o, ho, _⟩ := hl; Heap.lt_size ho
  have nI : l ≠ (s.heap.push (set0 led)).objs.size := by
    rw [n1]
    exact Nat.ne_of_lt (Nat.lt_succ_of_lt ls)
  have val : ∀ (i : Nat) (v : Value), its[i]? = some v → ∃ x t, xs[i]? = some x ∧ v = .str x t := fun i v hv => by
    rw [← Array.getElem?_toList] at hv
    have lt : i < xs.length := by
      rw [← isz, ← Array.length_toList]
      exact (List.getElem?_eq_some_iff.mp hv).1
    obtain ⟨t, e⟩ := SS.strs_at hi i v hv
    exact ⟨xs[i], t, List.getElem?_eq_getElem lt, by rw [e]; simp [List.getD, List.getElem?_eq_getElem lt]⟩
  have start : SetT w ((s.heap.push (set0 led)).push { cls := .type "list_iterator", data := .fields #[.ref l, .int 0 0] }) s.heap.objs.size [] :=
    ⟨List.nodup_nil, set0 led, #[], 0, .fresh 0 0 led, Heap.get?_push_of_some _ g1, ⟨rfl, rfl, rfl⟩, rfl, fun e he => (nomatch he), List.Perm.refl _, (by decide : 0 < scanBound), rfl, List.Pairwise.nil, hled⟩
  refine loopT ((Walks.list (by simp [hh]) _ l nI its).toS) s.heap.objs.size ?a xs isz few val s.heap (no_above (Nat.le_refl _)) ?b (its.size - 0) 0 _ (by omega) (Nat.zero_le _)
    ⟨⟨_, Heap.get?_push_size _ rfl, rfl, rfl⟩, (hl1.push _)⟩ (fun b o e => Heap.get?_push_of_some _ (Heap.get?_push_of_some _ e)) ⟨[], start, Nat.le_refl _, fun z => by simp⟩ ?c
  case a =>
    rw [n1]
    simp only [List.mem_cons, List.not_mem_nil, or_false, not_or]
    exact ⟨Nat.ne_of_lt (Nat.lt_succ_self _), Nat.ne_of_gt ls⟩
  case b =>
    intro b hb
    rw [List.mem_singleton.mp hb, n1]
    exact no_above (Nat.le_succ _)
  case c =>
    intro z L mv hL mL k
    obtain ⟨h', g2, d', tk', os'⟩ := z
    obtain rfl : g2 = s.gens := mv.gens
    obtain rfl : d' = s.drawn := mv.drawn
    obtain rfl : os' = s.os := mv.os
    exact hR h' tk' ⟨L, hL, mL⟩ k
/-- sorted of such a set -/
theorem sortedT {Q : Value → Shared → Prop} (R : SetT w s.heap a L) (hh : A.handled = none)
    (hQ : ∀ s' p (out : Array Value) (c : Nat) (ys : List Str), (∀ b o, s.heap.get? b = some o → s'.heap.get? b = some o) → s'.gens = s.gens → s'.os = s.os → s.heap.objs.size ≤ p → s'.heap.get? p = some (seqObj "list" out c) → StrsAre out.toList ys → ys.Perm L → Q (.ref p) s') :
    wpAny (model P w) A (call (.builtin "sorted") [.ref a]) Q E s := by
  obtain ⟨nd, o, es, ep, t, ho, hex, hd, c1, c2, c3, c4, c5, c6⟩ := R
  refine Calls.call_function_entry kind_sorted plain_sorted entry_sorted (args_sorted1 _) ?_
  unfold Builtin.«sorted»
  refine wpAny_bind (m := checkCount "sorted" 1 1 _) (wpAny_pure (wpAny_bind (collect_set (A := A.in1) hh ⟨o, ho, hex.1, hd⟩ c4 c3 c5 c6 fun s1 vs k1 hz g1 o1 pm => ?_)))
  have lv : vs.length = es.size := by rw [pm.length_eq, List.length_map, Array.length_toList]
  have few : vs.length ≤ sizeLine := by rw [lv]; exact fits_of_scanBound c3
  have all : ∀ v, v ∈ vs → ∃ x t, v = Value.str x t := fun v hv => by
    obtain ⟨e, he, q⟩ := List.mem_map.mp (pm.mem_iff.mp hv)
    obtain ⟨x, tk, e2, _⟩ := c1 e he
    exact ⟨x, tk, by rw [← q]; exact e2⟩
  have hS := strsAre_map vs all
  have pS : (vs.map strOf).Perm L := by
    refine (pm.map strOf).trans ?_
    rw [List.map_map]
    have : es.toList.map (strOf ∘ fun e => e.2) = es.toList.map txtOf := List.map_congr_left fun e he => by
      obtain ⟨x, tk, e2, _⟩ := c1 e he
      show strOf e.2 = txtOf e
      unfold txtOf
      rw [e2]
      rfl
    rw [this]
    exact c2
  refine wpAny_bind (wpAny_newList ?_ few)
  have hoL : (s1.heap.push (seqObj "list" vs.toArray 0)).get? s1.heap.objs.size = some (seqObj "list" vs.toArray 0) := Heap.get?_push_size _ rfl
  refine wpAny_bind (wpAny_holding (wpAny_call_entry slot_list_sort ⟨_, hoL, rfl⟩ entry_list_sort (list_sort_treeKSt strKind_oneLt hoL hS.keysOf (fun v1 v2 rest e => keyKind_strs (by rw [← e]; exact hS)) few fun st' hp hs _ => ⟨_, rfl, ?_⟩) (args_list_sort _)))
  obtain ⟨ys, a1, a2, _⟩ := sorted_out_str hS hp hs
  obtain ⟨c, hc⟩ := sortedHeap_at (vs := vs) (out := (arrOf st').map (·.2)) hoL
  refine wpAny_pure ⟨_, rfl, hQ _ s1.heap.objs.size _ c ys (fun b u e => ?_) g1 o1 hz hc a1 (a2.trans pS)⟩
  have q := k1 b u e
  have lt := Heap.lt_size q
  show (sortedHeap (s1.heap.push (seqObj "list" vs.toArray 0)) s1.heap.objs.size vs ((arrOf st').map (·.2))).get? b = some u
  rw [sortedHeap_old (Nat.ne_of_lt lt) (by rw [Heap.size_push]; exact Nat.lt_succ_of_lt lt)]
  exact Heap.get?_push_of_some _ q
end
section
variable {X : Cx}
theorem strsAre_vals : ∀ {us : List Value} {xs : List Str}, StrsAre us xs → Vals (xs.map V.str) us
  | _, _, .nil => .nil
  | _, _, .cons x tk t => .cons ⟨tk, rfl⟩ (strsAre_vals t)
/-- sorted(set(xs)), xs a list of texts: each text once -/
def tSortSet (K : PySem.W.Frag) (ta : TE) : TE := fun σ H Q => ta σ H fun x H1 => ∃ (l : Addr) (xs : List Str), x = V.ref l ∧ SqL K H1 l (xs.map V.str) ∧ xs.length < 4000 ∧
  ∀ ys : List Str, ys.Nodup → (∀ z, z ∈ ys ↔ z ∈ xs) → ∀ p, H1 p = none → Q (.ref p) (upd H1 p (.lst (ys.map V.str)))
theorem pe_sortSet {a : Expr} {ta : TE} {p p2 q pos : Pos} (hc : X.calm = true) (hg : Gl X "sorted") (hm : X.mg "sorted" = none) (hg2 : Gl X "set") (hm2 : X.mg "set" = none) (ha : PE X a ta)
    (na : starEach [a] X.env = (false, eval a X.env) :: starEach [] X.env := by rfl) : PE X (.Call (.Name "sorted" p) [.Call (.Name "set" p2) [a] [] q] [] pos) (tSortSet X.K ta) := by
  refine ⟨fun pins s σ H Q I h => ?_⟩
  apply Call_ (ld_blt I hg hm PyProof.Rows.boot_sorted _)
  apply PyProof.Rows.callWith_builtin1 (PyProof.Rows.args_cons _ rfl) rfl rfl
  apply Call_ (ld_blt I hg2 hm2 PyProof.Rows.boot_set _)
  apply PyProof.Rows.callWith_type1 (PyProof.Rows.args_cons (thn (ha.run pins s σ H _ I h) _) na) na rfl
  rintro v s1 ⟨x, H1, I1, r1, l, xs, rfl, hl, few, q1⟩
  apply PyProof.Rows.args_nil
  cases r1
  obtain ⟨its, rv, pl, hz⟩ := I1.list hl
  apply call_setT xs (I1.ok.hd hc) pl.isList (by rw [List.toList_toArray]; exact sAre_of rv) few
  intro h' tk L R mL k
  apply PyProof.Rows.args_nil
  have I2 : Inv X pins σ H1 { s1 with heap := h', toks := tk } := I1.kept fun b o e => k b o e
  have lL : L.length ≤ xs.length := nodup_le xs L R.nd fun z hz => (mL z).mp hz
  apply sortedT (s := { s1 with heap := h', toks := tk }) R (I1.ok.hd hc)
  intro s' p out c ys k2 g o hp hg hi pm
  have ln : (ys.map V.str).length ≤ sizeLine := by
    rw [List.length_map, pm.length_eq]
    exact Nat.le_trans (show L.length ≤ 4000 by omega) (by decide)
  have hn : H1 p = none := I2.hok.fresh hp
  have J : Inv X pins σ (upd H1 p (.lst (ys.map V.str))) { ({ s1 with heap := h', toks := tk } : Shared) with heap := s'.heap, gens := s'.gens, drawn := s'.drawn, toks := s'.toks } :=
    I2.call (ch := []) (Un.laid k2 hp hn) (I2.hok.laid k2 hp ⟨ln, out.toList, c, strsAre_vals hi, hg⟩) (by rw [g]; exact I2.bare) (fun _ z => nomatch z)
  have e : s' = { ({ s1 with heap := h', toks := tk } : Shared) with heap := s'.heap, gens := s'.gens, drawn := s'.drawn, toks := s'.toks } := by
    cases s'
    cases s1
    cases o
    rfl
  rw [e]
  exact ⟨.ref p, _, J, rfl, q1 ys (pm.nodup_iff.mpr R.nd) (fun z => by rw [pm.mem_iff, mL]) p hn⟩
end
end Kx
/-! What is due where names change. -/
namespace K03
open PySem PySem.Spec PyProof.Rows L2 Kx
def dueN (m : List (Str × Str)) (d : PyData) : PyData := if Ap m d then renD (nmOf m) d else .str "operation"
theorem names_iff {d : PyData} (h : formedD d = true) (z : Str) : z ∈ (belD d).map (fun e => (rowD e).1) ↔ z ∈ namesD d := by
  have : (belD d).map (fun e => (rowD e).1) = ((belD d).map rowD).map Prod.fst := by rw [List.map_map]; rfl
  rw [this, namesD]
  exact ((bel_rows d h).map Prod.fst).mem_iff
theorem cnt_lt (l : List Str) : Kx.cnt l < l.length ↔ ¬ l.Nodup := by
  have e := once_len l (und l) (und_nodup l) (mem_und l)
  rw [und_len] at e
  constructor
  · intro h z
    have := e.2.mpr z
    omega
  · intro h
    have : Kx.cnt l ≠ l.length := fun z => h (e.2.mp z)
    omega
theorem ap_iff {m : List (Str × Str)} {d : PyData} {ys : List Str} (nd : ys.Nodup) (mem : ∀ z, z ∈ ys ↔ z ∈ namesD d) : (ys.map (nmOf m)).Nodup ↔ Ap m d := by
  unfold Ap
  rw [nodup_map nd]
  exact ⟨fun h x hx y hy => h x ((mem x).mpr hx) y ((mem y).mpr hy), fun h x hx y hy => h x ((mem x).mp hx) y ((mem y).mp hy)⟩
section
variable {P : Program} {w : World} {K : PySem.W.Frag} {mg : Str → Option Value} {base : Heap}
def spDn (K : PySem.W.Frag) (n : Nat) : Sp := fun vs H Q _ => ∃ (x : V) (a : Addr) (d : PyData) (m : List (Str × Str)), vs = [x, .ref a] ∧ Dx K H x d ∧ Rd H a (.dK (strD m)) ∧ (∀ x y, (x, y) ∈ m → isNm x = true ∧ isNm y = true) ∧ formedD d = true ∧ d.depth ≤ n ∧ (preD d).length ≤ 990 ∧
  ∀ v H', Same H H' → Dx K H' v (dueN m d) → Q v H'
theorem ok_dn (T : Tx K mg) (n : Nat) (ln : n ≤ 100) : FnOk P w K mg base CX0 (n + 2) T.a_law_due_names T.d_law_due_names ["term", "names"] (spDn K n) := by
  have nd := sc__law_due_names.nd
  have G2 := ok_bl (P := P) (w := w) (base := base) T n
  have G3 := ok_lo (P := P) (w := w) (base := base) T n
  refine T.f_law_due_names.ok sc__law_due_names (fun vs H Q E h => ?_) (fun cdv A outer s H vs Q E hr h => ?_)
  · obtain ⟨x, a, d, m, rfl, _⟩ := h
    rfl
  · obtain ⟨x, a, d, m, rfl, dv, ha, hm, ef, dpt, lpre, q⟩ := h
    have hu := hu_of hr
    refine ⟨_, (pss_cons (ps_set (i := 2) nd rfl (.inl rfl) (pe_sortSet (by rfl) (by rfl) T.b_sorted (by rfl) T.b_set (pe_lc (own := [("part", 3)]) (g := (gName 3)) (tt := tYes) (by rfl) nd (pi_list (pe_call G2 (hr.mono (by omega)) (by rfl) T.g_law_below T.f_law_below.kp T.n_law_below .nil pass0 (pa_cons (pv 0) pa_nil))) (blkOk_by (own := [("part", 3)]) (N := N__law_due_names) (sc := defScope s__law_due_names) (by decide +kernel)) (fun _ _ _ _ _ => pg_name (i := 3) nd rfl (.inl rfl)) (fun _ _ _ _ _ => pts_nil) (fun _ _ _ _ _ => (pe_ix (r := rIxT K) ix_tup (pv 3) pe_int (fun _ _ => rfl))))))
      (pss_cons (ps_if (pt_cmpR op_lt (pe_lenSetT (by rfl) (by rfl) T.b_len (by rfl) T.b_set (pe_lc (own := [("name", 4)]) (g := (gName 4)) (tt := tYes) (by rfl) nd (pi_list (pv 2)) (blkOk_by (own := [("name", 4)]) (N := N__law_due_names) (sc := defScope s__law_due_names) (by decide +kernel)) (fun _ _ _ _ _ => pg_name (i := 4) nd rfl (.inl rfl)) (fun _ _ _ _ _ => pts_nil) (fun _ _ _ _ _ => (pe_dget2 hu (pv 1) (pv 4) (pv 4) ⟨by rfl, by rfl, by rfl, by rfl⟩)))) (pe_callB call_len_seq (by rfl) T.b_len (by decide +kernel) (pa_cons (pv 2) pa_nil)) (nomark _)) (pss_one (ps_ret pe_str)) pss_nil)
      (pss_one (ps_ret (pe_call G3 (hr.mono (by omega)) (by rfl) T.g_law_other_names T.f_law_other_names.kp T.n_law_other_names .nil pass0 (pa_cons (pv 0) (pa_cons (pv 1) pa_nil))))))), ?_⟩
    refine ⟨_, rfl, x, d, rfl, dv, ef, dpt, by omega, fun p H2 ys sm2 np ep dys => ?_⟩
    have lys := dys.length
    have lb := bel_len d
    have fb := bel_formed d ef
    refine ⟨p, rfl, ⟨_, .inl (.inl ep)⟩, fun D nD => ?_⟩
    refine lc_list (K := K) (a := p) (xs := ys) (fun i H3 => Same H2 H3 ∧ H3 D = some (.lst ((((belD d).take i).map fun e => (rowD e).1).map V.str)))
      ⟨same_new nD, by rw [upd_same]; simp⟩ (fun i H3 _ h => .inl (.inl (h.1 _ _ ep))) ?_ ?_
    · rintro i y H3 hi ⟨sm3, eD⟩
      have lt : i < (belD d).length := by
        rw [← lys]
        exact (List.getElem?_eq_some_iff.mp hi).1
      have gd := at_of lt
      obtain ⟨v2, hv2, dv2⟩ := dys.get gd
      rw [hi] at hv2
      cases hv2
      obtain ⟨nm, es, ee, l3, hnm, hfa⟩ := formed_shape (fb _ (List.mem_of_getElem? gd))
      have er : (rowD ((belD d)[i])).1 = nm := by rw [ee]; rfl
      rw [ee] at dv2
      cases dv2 with
      | @tup b xs _ hb hs =>
      cases hs with
      | @cons v0 vr _ _ h0 hws =>
      cases h0
      have tz := sm3 _ _ hb
      refine ⟨rfl, (iteT (B := False) ?_ : if true = true then _ else False)⟩
      refine ⟨_, rfl, b, _, 0, .str nm, rfl, rfl, SqT.of tz, atI_nat (j := 0) rfl, _, eD, ?_, fun b o hb => ?_, ?_⟩
      · rw [List.length_map, List.length_map, List.length_take]
        exact small1000 (by omega)
      · rw [upd_ne (ne_of_none hb nD)]
        exact sm3 b o hb
      · rw [upd_same, List.take_add_one, gd, Option.toList_some, List.map_append, List.map_append, List.map_singleton, List.map_singleton, er]
    · rintro H3 ⟨sm3, eD⟩
      rw [lys, List.take_length] at eD
      have s13 := sm2.trans sm3
      refine ⟨D, _, rfl, .inl (.inl eD), by rw [List.length_map]; omega, fun zs ndz mz pz npz => ?_⟩
      have mz2 : ∀ z, z ∈ zs ↔ z ∈ namesD d := fun z => by rw [mz, names_iff ef]
      have lz : zs.length ≤ 990 := by
        have e := nodup_le ((belD d).map fun e => (rowD e).1) zs ndz fun z hz => (mz z).mp hz
        rw [List.length_map] at e
        omega
      have sz := same_put (o := .lst (zs.map V.str)) npz
      have ez : (upd H3 pz (.lst (zs.map V.str))) pz = some (.lst (zs.map V.str)) := upd_same
      have s14 := s13.trans sz
      generalize upd H3 pz (.lst (zs.map V.str)) = H4 at ez s14 ⊢
      clear sz
      have ha4 := rd_up s14 ha
      refine ⟨_, rfl, pz, rfl, ⟨_, .inl (.inl ez)⟩, fun E1 nE => ?_⟩
      refine lc_list (K := K) (a := pz) (xs := zs.map V.str) (fun i H5 => Same H4 H5 ∧ H5 E1 = some (.lst (((zs.take i).map (nmOf m)).map V.str)))
        ⟨same_new nE, by rw [upd_same]; simp⟩ (fun i H5 _ h => .inl (.inl (h.1 _ _ ez))) ?_ ?_
      · rintro i y H5 hi ⟨sm5, eE⟩
        rw [List.getElem?_map] at hi
        obtain ⟨z, hz, rfl⟩ := Option.map_eq_some_iff.mp hi
        have lt : i < zs.length := (List.getElem?_eq_some_iff.mp hz).1
        have ha5 := rd_up sm5 ha4
        refine ⟨rfl, (iteT (B := False) ?_ : if true = true then _ else False)⟩
        refine ⟨_, rfl, a, rfl, .inl ⟨_, ha5⟩, _, rfl, _, rfl, _, .inl ⟨strD m, .inr z, ha5, rfl, rfl⟩, _, eE, ?_, fun b o hb => ?_, ?_⟩
        · rw [List.length_map, List.length_map, List.length_take]
          exact small1000 (by omega)
        · rw [upd_ne (ne_of_none hb nE)]
          exact sm5 b o hb
        · rw [upd_same, val_strD, look_getD, List.take_add_one, hz, Option.toList_some, List.map_append, List.map_append]
          rfl
      · rintro H5 ⟨sm5, eE⟩
        rw [List.length_map, List.take_length] at eE
        have s15 := s14.trans sm5
        refine ⟨E1, zs.map (nmOf m), rfl, .inl (.inl eE), by rw [List.length_map]; omega, ?_⟩
        refine ⟨_, rfl, pz, _, rfl, .inl (.inl (.inl (sm5 _ _ ez))), _, _, rfl, rfl, _, rfl, ?_⟩
        have cl := cnt_lt (zs.map (nmOf m))
        rw [ap_iff ndz mz2, List.length_map] at cl
        rw [List.length_map]
        by_cases ap : Ap m d
        · rw [show decide ((Kx.cnt (zs.map (nmOf m)) : Int) < (zs.length : Int)) = false from decide_eq_false (fun z => (cl.mp (by omega)) ap)]
          refine iteF ⟨_, rfl, _, rfl, x, a, d, m, rfl, dv.up s15, rd_up s15 ha, hm, ef, dpt, fun v H6 s6 dv6 => q v H6 (s15.trans s6) ?_⟩
          rw [dueN, if_pos ap]
          exact dv6
        · have := cl.mpr ap
          rw [show decide ((Kx.cnt (zs.map (nmOf m)) : Int) < (zs.length : Int)) = true from decide_eq_true (by omega)]
          refine iteT (q _ H5 s15 ?_)
          rw [dueN, if_neg ap]
          exact .str _
end
end K03
/-! The names of a turn. -/
namespace K03
open PySem PySem.Spec PyProof.Rows L2 Kx
/-- the heap without a -/
def Off (a : Addr) (H : Hp) : Hp := fun b => if b = a then none else H b
theorem Off.ne {a b : Addr} {H : Hp} (h : b ≠ a) : Off a H b = H b := if_neg h
theorem Off.of {a b : Addr} {H : Hp} {o : HO} (h : Off a H b = some o) : b ≠ a ∧ H b = some o := by
  unfold Off at h
  by_cases e : b = a
  · rw [if_pos e] at h
    cases h
  · rw [if_neg e] at h
    exact ⟨e, h⟩
theorem Off.same {a : Addr} {H : Hp} : Same (Off a H) H := fun b o h => (Off.of h).2
theorem But.off {a : Addr} {H H' : Hp} (h : But a H H') : Same (Off a H) (Off a H') := fun b o e => by
  obtain ⟨n, e⟩ := Off.of e
  rw [Off.ne n]
  exact h b o e n
abbrev Rw := Addr × NK
def rowO (r : NK) : HO := .tup [.str r.1, .int (r.2 : Int)]
/-- a list of rows at f -/
def RowsIn (H : Hp) (f : Addr) (zs : List Rw) : Prop := H f = some (.lst (zs.map fun z => V.ref z.1)) ∧ ∀ z, z ∈ zs → H z.1 = some (rowO z.2)
theorem RowsIn.up {H H' : Hp} {f : Addr} {zs : List Rw} (h : RowsIn H f zs) (e : Same H H') : RowsIn H' f zs := ⟨e _ _ h.1, fun z hz => e _ _ (h.2 z hz)⟩
theorem RowsIn.snoc {H : Hp} {f q : Addr} {zs : List Rw} {r : NK} (h : RowsIn H f zs) (n : H q = none) : RowsIn (upd (upd H q (rowO r)) f (.lst ((zs.map fun z => V.ref z.1) ++ [V.ref q]))) f (zs ++ [(q, r)]) := by
  have nf : q ≠ f := fun e => by
    rw [e, h.1] at n
    cases n
  refine ⟨by rw [upd_same, List.map_append]; rfl, fun z hz => ?_⟩
  rcases List.mem_append.mp hz with hz | hz
  · have := h.2 z hz
    rw [upd_ne (ne_of this h.1 (fun e => nomatch e)), upd_ne (ne_of_none this n)]
    exact this
  · rw [List.mem_singleton.mp hz, upd_ne nf, upd_same]
theorem RowsIn.len {zs : List Rw} : (zs.map fun z => V.ref z.1).length = zs.length := List.length_map ..
theorem Dice.ne {H : Hp} {a b : Addr} {n : Nat} (d : Dice H a n) (h : H b = none) : b ≠ a := fun e => by
  obtain ⟨_, _, _, z, _⟩ := d
  rw [e, z] at h
  cases h
theorem Dice.put {H : Hp} {a b : Addr} {n : Nat} {o : HO} (d : Dice H a n) (h : b ≠ a) : Dice (upd H b o) a n := d.same (upd_ne h.symm)
theorem But.free {a b : Addr} {H H' : Hp} (x : But a H H') (n : b ≠ a) (h : H' b = none) : H b = none := by
  cases e : H b with
  | none => rfl
  | some o =>
    rw [x b o e n] at h
    cases h
theorem But.put {a b : Addr} {H H' : Hp} {o : HO} (x : But a H H') (h : H b = none) : But a H (L2.upd H' b o) := fun c u hc nc => by
  rw [upd_ne (ne_of_none hc h)]
  exact x c u hc nc
theorem RowsIn.but {H H' : Hp} {a f : Addr} {n : Nat} {zs : List Rw} (h : RowsIn H f zs) (x : But a H H') (d : Dice H a n) (nf : f ≠ a) : RowsIn H' f zs := by
  obtain ⟨_, _, _, hz, _⟩ := d
  exact ⟨x _ _ h.1 nf, fun z m => x _ _ (h.2 z m) (ne_of (h.2 z m) hz (fun e => nomatch e))⟩
/-- good rows: names, few places, each name with its places; one without places -/
structure Good (l : List NK) : Prop where
  nm : ∀ r, r ∈ l → isNm r.1 = true ∧ r.2 ≤ 3
  fn : Func l
  cell : ∃ r, r ∈ l ∧ r.2 = 0
  few : l.length ≤ 20
  nk : ∀ r, r ∈ l → r.1 ≠ "k" ∧ r.1 ≠ "kk"
def tNm (x : Str) : Bool := isNm x && (!decide (x = "k") && !decide (x = "kk"))
theorem tNm_is {x : Str} (h : tNm x = true) : isNm x = true ∧ x ≠ "k" ∧ x ≠ "kk" := by
  simp only [tNm, Bool.and_eq_true, Bool.not_eq_true', decide_eq_false_iff_not] at h
  exact h
theorem Good.perm {l m : List NK} (g : Good l) (h : l.Perm m) : Good m := by
  refine ⟨fun r hr => g.nm r (h.mem_iff.mpr hr), (Func.congr fun p => h.mem_iff).mp g.fn, ?_, by rw [← h.length_eq]; exact g.few, fun r hr => g.nk r (h.mem_iff.mpr hr)⟩
  obtain ⟨r, hr, e⟩ := g.cell
  exact ⟨r, h.mem_iff.mp hr, e⟩
def pools : List (List Str) := [["a", "b", "c", "d"], ["a", "ab", "b", "ba"], ["x", "xin", "xout", "y"]]
def funcs : List Str := ["f", "g", "gg", "zzzzzzzz"]
theorem pools_ok : ∀ l, l ∈ pools → l.length = 4 ∧ ∀ x, x ∈ l → tNm x = true ∧ x ∉ funcs := by decide +kernel
theorem funcs_ok : funcs.Nodup ∧ ∀ x, x ∈ funcs → tNm x = true := by decide +kernel
theorem cut_upto {xs : List V} {i : Int} (h : 0 ≤ i) : cutV xs none (some i) = xs.take i.toNat := by
  obtain ⟨n, rfl⟩ := Int.eq_ofNat_of_zero_le h
  unfold cutV
  rw [show HT.sIx xs.length xs.length (some (n : Int)) = min n xs.length from HT.sIx_nat xs.length xs.length n, show HT.sIx xs.length 0 none = 0 from rfl, List.drop_zero, Nat.sub_zero, Int.toNat_natCast]
  by_cases e : n ≤ xs.length
  · rw [Nat.min_eq_left e]
  · rw [Nat.min_eq_right (by omega), List.take_length, List.take_of_length_le (by omega)]
theorem perm_back {α β : Type} {f : α → β} {l ys : List β} (h : l.Perm ys) : ∀ zs : List α, l = zs.map f → ∃ ws : List α, ws.Perm zs ∧ ys = ws.map f := by
  induction h with
  | nil =>
    intro zs e
    cases zs with
    | nil => exact ⟨[], List.Perm.refl _, rfl⟩
    | cons z zs => cases e
  | cons x _ ih =>
    intro zs e
    cases zs with
    | nil => cases e
    | cons z zs =>
      rw [List.map_cons] at e
      injection e with e1 e2
      obtain ⟨ws, p, q⟩ := ih zs e2
      exact ⟨z :: ws, p.cons z, by rw [List.map_cons, q, e1]⟩
  | swap x y l =>
    intro zs e
    cases zs with
    | nil => cases e
    | cons z zs =>
      cases zs with
      | nil => cases e
      | cons z2 zs =>
        rw [List.map_cons, List.map_cons] at e
        injection e with e1 e2
        injection e2 with e2 e3
        exact ⟨z2 :: z :: zs, List.Perm.swap _ _ _, by rw [List.map_cons, List.map_cons, e1, e2, e3]⟩
  | trans _ _ ih1 ih2 =>
    intro zs e
    obtain ⟨ws, p, q⟩ := ih1 zs e
    obtain ⟨vs, p2, q2⟩ := ih2 ws q
    exact ⟨vs, p2.trans p, q2⟩
theorem nodup_inj {α β : Type} {f : α → β} : ∀ {l : List α} {x y : α}, (l.map f).Nodup → x ∈ l → y ∈ l → f x = f y → x = y
  | [], _, _, _, h, _, _ => nomatch h
  | z :: l, x, y, nd, hx, hy, e => by
    rw [List.map_cons, List.nodup_cons] at nd
    rcases List.mem_cons.mp hx with h1 | h1
    · rcases List.mem_cons.mp hy with h2 | h2
      · rw [h1, h2]
      · exact absurd (List.mem_map.mpr ⟨y, h2, by rw [← e, h1]⟩) nd.1
    · rcases List.mem_cons.mp hy with h2 | h2
      · exact absurd (List.mem_map.mpr ⟨x, h1, by rw [e, h2]⟩) nd.1
      · exact nodup_inj nd.2 h1 h2 e
/-- a row as an item to be sorted -/
def rowI (z : Rw) : V × PyData := (V.ref z.1, PyData.tuple [.str z.2.1, .int (z.2.2 : Int)])
section
variable {P : Program} {w : World} {K : PySem.W.Frag} {mg : Str → Option Value} {base : Heap}
def spNames (K : PySem.W.Frag) : Sp := fun vs H Q _ => ∃ (a : Addr) (n : Nat), vs = [.ref a, .int 3] ∧ Dice H a n ∧ n + 100 < cap ∧
  ∀ (p : Addr) (zs : List Rw) H', But a H H' → Dice H' a (n + 100) → H p = none → p ≠ a → RowsIn H' p zs → Good (zs.map Prod.snd) → Q (.ref p) H'
theorem ok_names (T : Tx K mg) : FnOk P w K mg base CX0 3 T.a_law_names T.d_law_names ["dice", "few"] (spNames K) := by
  have nd := sc__law_names.nd
  have G1 := ok_roll (P := P) (w := w) (base := base) T
  have G2 := ok_pick (P := P) (w := w) (base := base) T
  have G3 := ok_mixed (P := P) (w := w) (base := base) T
  refine T.f_law_names.ok sc__law_names (fun vs H Q E h => ?_) (fun cdv A outer s H vs Q E hr h => ?_)
  · obtain ⟨a, n, rfl, _⟩ := h
    rfl
  · obtain ⟨a, n, rfl, hd, hn, q⟩ := h
    refine ⟨_, (pss_cons (ps_set (i := 2) nd rfl (.inl rfl) (pe_lst (pa_cons (pe_lst (pa_cons pe_str (pa_cons pe_str (pa_cons pe_str (pa_cons pe_str pa_nil))))) (pa_cons (pe_lst (pa_cons pe_str (pa_cons pe_str (pa_cons pe_str (pa_cons pe_str pa_nil))))) (pa_cons (pe_lst (pa_cons pe_str (pa_cons pe_str (pa_cons pe_str (pa_cons pe_str pa_nil))))) pa_nil)))))
      (C8.pss_cut (ps_set (i := 3) nd rfl (.inl rfl) (pe_call G3 (hr.mono (by omega)) (by rfl) T.g_law_mixed T.f_law_mixed.kp T.n_law_mixed .nil pass0 (pa_cons (pv 0) (pa_cons (pe_call G2 (hr.mono (by omega)) (by rfl) T.g_law_pick T.f_law_pick.kp T.n_law_pick .nil pass0 (pa_cons (pv 0) (pa_cons (pv 2) pa_nil))) pa_nil))))
      (pss_cons (ps_setLc (i := 5) (own := [("name", 4)]) (g := (gName 4)) (tt := tYes) (by rfl) nd rfl rfl (sw_true rfl rfl rfl (by decide +kernel)) (pi_list (pe_slice sl_list (pv 3) po_none (po_some (pe_op op_add pe_int (pe_call G1 (hr.mono (by omega)) (by rfl) T.g_law_roll T.f_law_roll.kp T.n_law_roll .nil pass0 (pa_cons (pv 0) (pa_cons pe_int pa_nil))))))) (blkOk_by (own := [("name", 4)]) (N := N__law_names) (sc := defScope s__law_names) (by decide +kernel)) (fun _ _ _ _ _ => pg_name (i := 4) nd rfl (.inl rfl)) (fun _ _ _ _ _ => pts_nil) (fun _ _ _ _ _ => (pe_tup (pa_cons (pv 4) (pa_cons pe_int pa_nil)))))
      (pss_cons (ps_for PassesOwn.never rfl (pi_list (pe_slice sl_list (pe_call G3 (hr.mono (by omega)) (by rfl) T.g_law_mixed T.f_law_mixed.kp T.n_law_mixed .nil pass0 (pa_cons (pv 0) (pa_cons (pe_lst (pa_cons pe_str (pa_cons pe_str (pa_cons pe_str (pa_cons pe_str pa_nil))))) pa_nil))) po_none (po_some (pe_op op_add pe_int (pe_call G1 (hr.mono (by omega)) (by rfl) T.g_law_roll T.f_law_roll.kp T.n_law_roll .nil pass0 (pa_cons (pv 0) (pa_cons (pv 1) pa_nil))))))) (pg_name (i := 4) nd rfl (.inl rfl)) (pss_one (ps_expr (pe_bm PySem.F.plainAttrs_list PySem.F.slot_list_append PySem.F.type_list_append mt_append (pv 5) (pa_cons (pe_tup (pa_cons (pv 4) (pa_cons (pe_op op_add pe_int (pe_callB (call_max2 rfl) (by rfl) T.b_max (by decide +kernel) (pa_cons pe_int (pa_cons (pe_op op_sub (pe_call G1 (hr.mono (by omega)) (by rfl) T.g_law_roll T.f_law_roll.kp T.n_law_roll .nil pass0 (pa_cons (pv 0) (pa_cons pe_int pa_nil))) pe_int) pa_nil)))) pa_nil))) pa_nil)))))
      (pss_one (ps_ret (pe_callB (cr_sortedD hr.units) (by rfl) T.b_sorted (by decide +kernel) (pa_cons (pv 5) pa_nil)))))))), ?_⟩
    -- pools
    refine ⟨(by show 4 ≤ sizeLine; decide), fun p1 n1 => ⟨(by show 4 ≤ sizeLine; decide), fun p2 n2 => ⟨(by show 4 ≤ sizeLine; decide), fun p3 n3 => ⟨(by show 3 ≤ sizeLine; decide), fun pl n4 => ?_⟩⟩⟩⟩
    have s1 := same_new (o := .lst [.str "a", .str "b", .str "c", .str "d"]) n1
    have s2 := same_new (o := .lst [.str "a", .str "ab", .str "b", .str "ba"]) n2
    have s3 := same_new (o := .lst [.str "x", .str "xin", .str "xout", .str "y"]) n3
    have s4 := same_new (o := .lst [.ref p1, .ref p2, .ref p3]) n4
    have dH := hd
    obtain ⟨i0, i1, i2, ha, _⟩ := dH
    have hpl : ∀ v, v ∈ [V.ref p1, .ref p2, .ref p3] → ∃ b l, v = .ref b ∧ l ∈ pools ∧ b ≠ a ∧ (upd (upd (upd (upd H p1 (.lst [.str "a", .str "b", .str "c", .str "d"])) p2 (.lst [.str "a", .str "ab", .str "b", .str "ba"])) p3 (.lst [.str "x", .str "xin", .str "xout", .str "y"])) pl (.lst [.ref p1, .ref p2, .ref p3])) b = some (.lst (l.map V.str)) := by
      intro v hv
      have na : ∀ {G : Hp} {b : Addr}, Same H G → G b = none → b ≠ a := fun sm e z => by
        rw [z, sm _ _ ha] at e
        cases e
      rcases List.mem_cons.mp hv with rfl | hv
      · exact ⟨p1, ["a", "b", "c", "d"], rfl, .head _, na (Same.refl H) n1, s4 _ _ (s3 _ _ (s2 _ _ upd_same))⟩
      · rcases List.mem_cons.mp hv with rfl | hv
        · exact ⟨p2, ["a", "ab", "b", "ba"], rfl, .tail _ (.head _), na s1 n2, s4 _ _ (s3 _ _ upd_same)⟩
        · cases List.mem_singleton.mp hv
          exact ⟨p3, ["x", "xin", "xout", "y"], rfl, .tail _ (.tail _ (.head _)), na (s1.trans s2) n3, s4 _ _ upd_same⟩
    have npa : pl ≠ a := fun z => by
      rw [z, s3 _ _ (s2 _ _ (s1 _ _ ha))] at n4
      cases n4
    refine ⟨fun σ' H' => But a H H' ∧ Dice H' a (n + 5) ∧ ∃ (c : Addr) (ys : List Str), σ' = [some (.ref a), some (.int 3), some (.ref pl), some (.ref c), none, none] ∧ c ≠ a ∧ H' c = some (.lst (ys.map V.str)) ∧ ys.length = 4 ∧ ∀ x, x ∈ ys → tNm x = true ∧ x ∉ funcs, ?_, ?_⟩
    · refine ⟨.ref a, rfl, .ref a, rfl, .ref pl, rfl, a, pl, n, _, rfl, ((((hd.up s1).up s2).up s3).up s4), by omega, .inl (.inl upd_same), npa, Nat.zero_lt_succ _, (by show 3 < 1000000; decide), fun i v H' bt dd hi => ?_⟩
      obtain ⟨b, l, rfl, hl, hb, eb⟩ := hpl v (List.mem_of_getElem? hi)
      obtain ⟨l4, lp⟩ := pools_ok l hl
      have eb' := bt _ _ eb hb
      refine ⟨a, b, n + 1, l.map V.str, rfl, dd, by rw [List.length_map]; omega, .inl (.inl eb'), hb, by rw [List.length_map]; omega, fun ys c H2 bt2 dd2 pm nc nca ec => ?_⟩
      obtain ⟨ws, pw, rfl⟩ := perm_back pm.symm l rfl
      rw [List.length_map, l4] at dd2
      exact ⟨(But.of (s1.trans (s2.trans (s3.trans s4)))).trans (bt.trans bt2), dd2, c, ws, rfl, nca, ec, by rw [pw.length_eq, l4], fun x hx => lp x (pw.mem_iff.mp hx)⟩
    rintro σ1 H1 ⟨bt1, dd1, c, ys, rfl, nca, ec, y4, hy⟩
    -- the cells
    refine ⟨_, rfl, _, rfl, a, n + 5, 3, rfl, dd1, by omega, by decide, by decide, fun r H2 bt2 dd2 r0 r1 => ⟨2, r, rfl, rfl, _, rfl, c, _, rfl, .inl (.inl (bt2 _ _ ec nca)), fun e ne => ⟨e, rfl, ⟨_, .inl (.inl upd_same)⟩, fun D nD => ?_⟩⟩⟩
    rw [cut_upto (by omega), ← List.map_take] at nD ⊢
    have nea := dd2.ne ne
    have sne := same_new (o := .lst ((ys.take (2 + r).toNat).map V.str)) ne
    have nDa := (dd2.up sne).ne nD
    have nDH := But.free (bt1.trans (bt2.trans (But.of sne))) nDa nD
    have lc : (ys.take (2 + r).toNat).length ≤ 4 ∧ 2 ≤ (ys.take (2 + r).toNat).length := by
      rw [List.length_take]
      omega
    have hc : ∀ x, x ∈ ys.take (2 + r).toNat → tNm x = true ∧ x ∉ funcs := fun x hx => hy x (List.mem_of_mem_take hx)
    generalize ys.take (2 + r).toNat = cs at lc hc nD sne
    refine lc_list (K := K) (a := e) (xs := cs.map V.str) (fun i H3 => But a H H3 ∧ Dice H3 a (n + 6) ∧ H3 e = some (.lst (cs.map V.str)) ∧ ∃ zs : List Rw, RowsIn H3 D zs ∧ zs.map Prod.snd = (cs.take i).map fun x => (x, 0))
      ⟨bt1.trans (bt2.trans (But.of (sne.trans (same_new nD)))), dd2.up (sne.trans (same_new nD)), same_new nD _ _ upd_same, [], ⟨upd_same, fun z hz => (nomatch hz)⟩, by simp⟩ (fun i H3 _ h => .inl (.inl h.2.2.1)) ?_ ?_
    · rintro i y H3 hi ⟨bt3, dd3, ee, zs, ri, em⟩
      rw [List.getElem?_map] at hi
      obtain ⟨x, hx, rfl⟩ := Option.map_eq_some_iff.mp hi
      have lt : i < cs.length := (List.getElem?_eq_some_iff.mp hx).1
      have lz : zs.length = i := by
        have := congrArg List.length em
        simp only [List.length_map, List.length_take] at this
        omega
      refine ⟨rfl, (iteT (B := False) ?_ : if true = true then _ else False)⟩
      refine ⟨_, rfl, (by show 2 ≤ sizeLine; decide), fun q nq => ?_⟩
      have nqD : D ≠ q := ne_of_none ri.1 nq
      have smq := same_new (o := rowO (x, 0)) nq
      have neD : e ≠ D := fun z => by
        rw [z, upd_same] at nD
        cases nD
      refine ⟨zs.map fun z => V.ref z.1, by rw [upd_ne nqD]; exact ri.1, by rw [List.length_map]; exact small1000 (by omega), (bt3.trans (But.of smq)).put nDH, (dd3.up smq).put nDa, ?_, zs ++ [(q, (x, 0))], ri.snoc (r := (x, 0)) nq, ?_⟩
      · rw [upd_ne neD]
        exact smq _ _ ee
      · rw [List.map_append, em, List.take_add_one, hx, List.map_append]
        rfl
    rintro H3 ⟨bt3, dd3, ee, zs, ri, em⟩
    rw [List.length_map, List.take_length] at em
    clear ee sne
    -- the others
    refine ⟨_, rfl, (by show 4 ≤ sizeLine; decide), fun g ng => ⟨a, g, n + 6, funcs.map V.str, rfl, dd3.up (same_new ng), by show n + 6 + 4 < cap; omega, .inl (.inl upd_same), dd3.ne ng, by decide, fun fs p H4 bt4 dd4 pm np npa' ep => ?_⟩⟩
    obtain ⟨ws, pw, rfl⟩ := perm_back pm.symm funcs rfl
    have dd4 : Dice H4 a (n + 10) := dd4
    have ri4 := (ri.up (same_new (o := .lst (funcs.map V.str)) ng)).but bt4 (dd3.up (same_new ng)) nDa
    have bt4 := bt3.trans ((But.of (same_new (o := .lst (funcs.map V.str)) ng)).trans bt4)
    refine ⟨_, rfl, _, rfl, a, n + 10, 3, rfl, dd4, by omega, by decide, by decide, fun r5 H5 bt5 dd5 r50 r51 => ⟨1, r5, rfl, rfl, _, rfl, p, _, rfl, .inl (.inl (bt5 _ _ ep npa')), fun u nu => ⟨u, rfl, ⟨_, .inl (.inl upd_same)⟩, ?_⟩⟩⟩
    rw [cut_upto (by omega), ← List.map_take]
    have nus : u ≠ D := (ne_of_none (ri4.but bt5 dd4 nDa).1 nu).symm
    have smu := same_new (o := .lst ((ws.take (1 + r5).toNat).map V.str)) nu
    have nua := dd5.ne nu
    have lf : (ws.take (1 + r5).toNat).length ≤ 3 := by
      rw [List.length_take]
      omega
    have ndw : (ws.take (1 + r5).toNat).Nodup := List.Nodup.sublist (List.take_sublist _ _) (pw.nodup_iff.mpr funcs_ok.1)
    have hw : ∀ x, x ∈ ws.take (1 + r5).toNat → x ∈ funcs := fun x hx => pw.mem_iff.mp (List.mem_of_mem_take hx)
    have bt6 := bt4.trans (bt5.trans (But.of smu))
    have dd6 := dd5.up smu
    have ri6 := (ri4.but bt5 dd4 nDa).up smu
    generalize ws.take (1 + r5).toNat = us at lf ndw hw bt6 dd6 ri6 ⊢
    clear smu
    have lcz : zs.length = cs.length := by
      have := congrArg List.length em
      simpa only [List.length_map] using this
    refine for_list (K := K) (a := u) (xs := us.map V.str) (fun i σ H7 => But a H H7 ∧ Dice H7 a (n + 11 + i) ∧ H7 u = some (.lst (us.map V.str)) ∧ ∃ (y : Option V) (fr : List Rw), σ = [some (.ref a), some (.int 3), some (.ref pl), some (.ref c), y, some (.ref D)] ∧ RowsIn H7 D (zs ++ fr) ∧ fr.map (fun z => z.2.1) = us.take i ∧ ∀ z, z ∈ fr → z.2.2 ≤ 3)
      ⟨bt6, dd6, upd_same, none, [], rfl, by rw [List.append_nil]; exact ri6, by simp, fun z hz => (nomatch hz)⟩ (fun i σ H3 _ h => .inl (.inl h.2.2.1)) ?_ ?_
    · rintro i y σ H7 hi ⟨bt7, dd7, eu, y0, fr, rfl, ri7, em7, h7⟩
      rw [List.getElem?_map] at hi
      obtain ⟨x, hx, rfl⟩ := Option.map_eq_some_iff.mp hi
      have lt : i < us.length := (List.getElem?_eq_some_iff.mp hx).1
      refine ⟨_, rfl, .inl ⟨rfl, _, .inl (.inl ri7.1)⟩, _, rfl, _, rfl, a, n + 11 + i, 5, rfl, dd7, by omega, by decide, by decide, fun r8 H8 bt8 dd8 r80 r81 => ⟨r8, 2, rfl, rfl, 0, r8 - 2, rfl, 1, _, rfl, rfl, (by show 2 ≤ sizeLine; decide), fun q nq => ?_⟩⟩
      have ri8 := ri7.but bt8 dd7 nDa
      obtain ⟨k, hk, ek⟩ : ∃ k : Nat, k ≤ 3 ∧ (1 + if r8 - 2 > 0 then r8 - 2 else 0 : Int) = k := by
        refine ⟨(1 + if r8 - 2 > 0 then r8 - 2 else 0 : Int).toNat, ?_, ?_⟩ <;> split <;> omega
      dsimp only
      rw [ek]
      have smq := same_new (o := rowO (x, k)) nq
      have eq8 := smq _ _ ri8.1
      have lfr : fr.length ≤ 3 := by
        have := congrArg List.length em7
        simp only [List.length_map, List.length_take] at this
        omega
      refine ⟨D, _, .ref q, rfl, rfl, eq8, by rw [List.length_map, List.length_append]; exact small1000 (by omega), (bt7.trans (bt8.trans (But.of smq))).put nDH, ((dd8.up smq).put nDa).le (by omega), ?_, some (.str x), fr ++ [(q, (x, k))], rfl, ?_, ?_, fun z hz => ?_⟩
      · rw [upd_ne nus]
        exact smq _ _ (bt8 _ _ eu nua)
      · rw [← List.append_assoc]
        exact ri8.snoc (r := (x, k)) nq
      · rw [List.map_append, em7, List.take_add_one, hx]
        rfl
      · rcases List.mem_append.mp hz with hz | hz
        · exact h7 z hz
        · rw [List.mem_singleton.mp hz]
          exact hk
    · rintro σ H7 ⟨bt7, dd7, eu, y0, fr, rfl, ri7, em7, h7⟩
      rw [List.length_map, List.take_length] at em7
      have lfr : fr.length ≤ 3 := by
        have := congrArg List.length em7
        simp only [List.length_map] at this
        omega
      -- sorted
      have eI : ∀ l : List Rw, (l.map rowI).map Prod.fst = l.map fun z => V.ref z.1 := fun l => by rw [List.map_map]; rfl
      have eS : ∀ l : List Rw, (l.map rowI).map Prod.snd = l.map fun z => PyData.tuple [.str z.2.1, .int (z.2.2 : Int)] := fun l => by rw [List.map_map]; rfl
      refine ⟨_, rfl, D, (zs ++ fr).map rowI, rfl, by rw [eI]; exact .inl (.inl ri7.1), fun z hz => ?_, ?_, ?_, by rw [List.length_map, List.length_append]; exact Nat.le_of_lt (small1000 (by omega)), fun z hz => ?_, fun p np => ?_⟩
      · obtain ⟨z, hz2, rfl⟩ := List.mem_map.mp hz
        exact .tup (.inl (.inl (ri7.2 z hz2))) (.cons (.str _) (.cons (.int _) .nil))
      · rw [eS]
        exact PySem.W.AllAlike.of fun b b' => rfl
      · rw [eS]
        exact PySem.W.Sortable.tuples fun b => ⟨_, _, rfl⟩
      · obtain ⟨z, hz2, rfl⟩ := List.mem_map.mp hz
        show PyData.depth (.tuple [.str z.2.1, .int (z.2.2 : Int)]) ≤ 60
        simp [PyData.depth, PyData.depthAll]
      · obtain ⟨ws2, pw2, ew2⟩ := perm_back (List.mergeSort_perm ((zs ++ fr).map rowI) (PySem.W.dataLe false Prod.snd)).symm (zs ++ fr) rfl
        rw [ew2, eI]
        have npa2 := dd7.ne np
        have smp := same_new (o := .lst (ws2.map fun z => V.ref z.1)) np
        refine q p ws2 _ (bt7.trans (But.of smp)) ((dd7.up smp).le ?_) (But.free bt7 npa2 np) npa2 ⟨upd_same, fun z hz => smp _ _ (ri7.2 z (pw2.mem_iff.mp hz))⟩ ?_
        · rw [List.length_map]
          omega
        · refine Good.perm ?_ (pw2.map Prod.snd).symm
          rw [List.map_append, em]
          have nmk : ∀ r, r ∈ (cs.map fun x => ((x, 0) : NK)) ++ fr.map Prod.snd → tNm r.1 = true ∧ r.2 ≤ 3 := fun r hr => by
            rcases List.mem_append.mp hr with h | h
            · obtain ⟨x, hx, rfl⟩ := List.mem_map.mp h
              exact ⟨(hc x hx).1, Nat.zero_le _⟩
            · obtain ⟨z, hz, rfl⟩ := List.mem_map.mp h
              refine ⟨funcs_ok.2 _ (hw _ ?_), h7 z hz⟩
              rw [← em7]
              exact List.mem_map.mpr ⟨z, hz, rfl⟩
          refine ⟨fun r hr => ⟨(tNm_is (nmk r hr).1).1, (nmk r hr).2⟩, ?_, ?_, ?_, fun r hr => (tNm_is (nmk r hr).1).2⟩
          · have inF : ∀ r, r ∈ fr.map Prod.snd → r.1 ∈ funcs := fun r hr => by
              obtain ⟨z, hz, rfl⟩ := List.mem_map.mp hr
              refine hw _ ?_
              rw [← em7]
              exact List.mem_map.mpr ⟨z, hz, rfl⟩
            have inC : ∀ r, r ∈ (cs.map fun x => ((x, 0) : NK)) → r.1 ∉ funcs ∧ r.2 = 0 := fun r hr => by
              obtain ⟨x, hx, rfl⟩ := List.mem_map.mp hr
              exact ⟨(hc x hx).2, rfl⟩
            intro r hr t ht e
            rcases List.mem_append.mp hr with h1 | h1
            · rcases List.mem_append.mp ht with h2 | h2
              · rw [(inC r h1).2, (inC t h2).2]
              · have z := (inC r h1).1
                rw [e] at z
                exact absurd (inF t h2) z
            · rcases List.mem_append.mp ht with h2 | h2
              · have z := (inC t h2).1
                rw [← e] at z
                exact absurd (inF r h1) z
              · obtain ⟨x, hx, rfl⟩ := List.mem_map.mp h1
                obtain ⟨y, hy, rfl⟩ := List.mem_map.mp h2
                rw [nodup_inj (f := fun z : Rw => z.2.1) (by rw [em7]; exact ndw) hx hy e]
          · cases cs with
            | nil =>
              simp at lc
            | cons x cs => exact ⟨(x, 0), List.mem_append_left _ (List.mem_map.mpr ⟨x, List.mem_cons_self, rfl⟩), rfl⟩
          · rw [List.length_append, List.length_map, List.length_map]
            omega
end
end K03
/-! A term of the turn. -/
namespace K03
open PySem PySem.Spec PyProof.Rows L2 Kx
/-- tuples stand -/
def Tups (H H' : Hp) : Prop := ∀ b xs, H b = some (.tup xs) → H' b = some (.tup xs)
theorem Tups.of {H H' : Hp} (x : Same H H') : Tups H H' := fun b xs h => x b _ h
theorem Tups.trans {H H1 H2 : Hp} (x : Tups H H1) (y : Tups H1 H2) : Tups H H2 := fun b xs h => y b xs (x b xs h)
theorem Tups.but {a : Addr} {n : Nat} {H H' : Hp} (x : But a H H') (d : Dice H a n) : Tups H H' := fun b xs h => by
  obtain ⟨_, _, _, z, _⟩ := d
  exact x b _ h (ne_of h z (fun e => nomatch e))
theorem Tups.lst {D : Addr} {H : Hp} {xs ys : List V} (h : H D = some (.lst xs)) : Tups H (upd H D (.lst ys)) := fun b zs e => by
  rw [upd_ne (ne_of e h (fun e => nomatch e))]
  exact e
mutual
/-- no list, no dict -/
def pureD : PyData → Bool
  | .list _ => false
  | .dict _ => false
  | .tuple ds => pureAll ds
  | _ => true
def pureAll : List PyData → Bool
  | [] => true
  | d :: ds => pureD d && pureAll ds
end
mutual
theorem Dx.ts {K : PySem.W.Frag} {H H' : Hp} (t : Tups H H') : ∀ (d : PyData) (x : V), pureD d = true → Dx K H x d → Dx K H' x d
  | .none, _, _, h => by cases h; exact .non
  | .bool b, _, _, h => by cases h; exact .bl b
  | .int i, _, _, h => by cases h; exact .int i
  | .str x, _, _, h => by cases h; exact .str x
  | .list ds, _, e, h => by cases e
  | .tuple ds, _, e, h => by cases h with | tup a b => exact .tup (t _ _ a) (DxAll.ts t ds _ (by simpa [pureD] using e) b)
  | .dict ds, _, e, h => by cases e
theorem DxAll.ts {K : PySem.W.Frag} {H H' : Hp} (t : Tups H H') : ∀ (ds : List PyData) (xs : List V), pureAll ds = true → DxAll K H xs ds → DxAll K H' xs ds
  | [], _, _, h => by cases h; exact .nil
  | d :: ds, _, e, h => by
    have e : pureD d = true ∧ pureAll ds = true := by simpa [pureAll] using e
    cases h with | cons a b => exact .cons (Dx.ts t d _ e.1 a) (DxAll.ts t ds _ e.2 b)
end
theorem pure_name {d : PyData} (h : nameD d = true) : pureD d = true := by
  cases d with
  | str x => rfl
  | _ => cases h
mutual
theorem pure_formed : ∀ (d : PyData), formedD d = true → pureD d = true
  | .none, h => rfl
  | .bool _, h => rfl
  | .int _, h => rfl
  | .str _, h => rfl
  | .list ds, h => by cases h
  | .dict ds, h => by cases h
  | .tuple [], h => rfl
  | .tuple (d :: ds), h => by
    simp only [formedD, Bool.and_eq_true] at h
    simp only [pureD, pureAll, Bool.and_eq_true]
    exact ⟨pure_name h.1.2, pure_formedAll ds h.2⟩
theorem pure_formedAll : ∀ (ds : List PyData), formedAll ds = true → pureAll ds = true
  | [], h => rfl
  | d :: ds, h => by
    simp only [formedAll, Bool.and_eq_true] at h
    simp only [pureAll, Bool.and_eq_true]
    exact ⟨pure_formed d h.1, pure_formedAll ds h.2⟩
end
theorem RowsIn.add {H : Hp} {f : Addr} {zs : List Rw} {z : Rw} (h : RowsIn H f zs) (n : H z.1 = some (rowO z.2)) : RowsIn (upd H f (.lst ((zs.map fun z => V.ref z.1) ++ [V.ref z.1]))) f (zs ++ [z]) := by
  refine ⟨by rw [upd_same, List.map_append]; rfl, fun y hy => ?_⟩
  have e : H y.1 = some (rowO y.2) := by
    rcases List.mem_append.mp hy with hy | hy
    · exact h.2 y hy
    · rw [List.mem_singleton.mp hy]
      exact n
  rw [upd_ne (ne_of e h.1 (fun e => nomatch e))]
  exact e
theorem RowsIn.off {H : Hp} {f D : Addr} {zs : List Rw} {xs ys : List V} (h : RowsIn H f zs) (e : H D = some (.lst xs)) (n : D ≠ f) : RowsIn (upd H D (.lst ys)) f zs := by
  refine ⟨by rw [upd_ne n.symm]; exact h.1, fun z hz => ?_⟩
  rw [upd_ne (ne_of (h.2 z hz) e (fun e => nomatch e))]
  exact h.2 z hz
def cost : Nat → Nat
  | 0 => 0
  | n + 1 => 2 + 3 * cost n
/-- a term with names of rs, n levels at most -/
structure Tm (rs : List NK) (n : Nat) (d : PyData) : Prop where
  fm : formedD d = true
  rw : ∀ r, r ∈ rowsD d → r ∈ rs
  dp : d.depth ≤ n
theorem formedAll_snoc {ds : List PyData} {d : PyData} : formedAll (ds ++ [d]) = (formedAll ds && formedD d) := by
  rw [formedAll_append]
  simp [formedAll]
theorem depthAll_snoc {n : Nat} : ∀ {ds : List PyData} {d : PyData}, PyData.depthAll ds ≤ n → d.depth ≤ n → PyData.depthAll (ds ++ [d]) ≤ n
  | [], d, _, h => by simpa [PyData.depthAll] using h
  | e :: ds, d, h1, h2 => by
    rw [List.cons_append, PyData.depthAll]
    rw [PyData.depthAll] at h1
    have := depthAll_snoc (ds := ds) (d := d) (n := n) (by omega) h2
    omega
section
variable {P : Program} {w : World} {K : PySem.W.Frag} {mg : Str → Option Value} {base : Heap}
def spLt (K : PySem.W.Frag) (n : Nat) : Sp := fun vs H Q _ => ∃ (a b : Addr) (m : Nat) (zs : List Rw), vs = [.ref a, .ref b, .int (n : Int)] ∧ 0 < n ∧ Dice H a m ∧ m + cost n < cap ∧ RowsIn H b zs ∧ b ≠ a ∧ Good (zs.map Prod.snd) ∧
  ∀ (x : V) (d : PyData) H', But a H H' → Dice H' a (m + cost n) → Dx K H' x d → Tm (zs.map Prod.snd) n d → Q x H'
theorem ok_lt (T : Tx K mg) : ∀ n, FnOk P w K mg base CX0 (n + 3) T.a_law_term T.d_law_term ["dice", "names", "deep"] (spLt K n)
  | 0 => by
    refine T.f_law_term.ok sc__law_term (fun vs H Q E h => ?_) (fun cdv A outer s H vs Q E hr h => ?_)
    · obtain ⟨a, b, m, zs, rfl, _⟩ := h
      rfl
    · obtain ⟨a, b, m, zs, rfl, h0, _⟩ := h
      exact absurd h0 (Nat.lt_irrefl _)
  | n + 1 => by
    have nd := sc__law_term.nd
    have G0 := ok_lt T n
    have G1 := ok_roll (P := P) (w := w) (base := base) T
    have G2 := ok_pick (P := P) (w := w) (base := base) T
    refine T.f_law_term.ok sc__law_term (fun vs H Q E h => ?_) (fun cdv A outer s H vs Q E hr h => ?_)
    · obtain ⟨a, b, m, zs, rfl, _⟩ := h
      rfl
    · obtain ⟨a, b, m, zs, rfl, _, hd, hc, ri, nba, gd, q⟩ := h
      refine ⟨_, (pss_cons (ps_setLc (i := 3) (own := [("row", 6)]) (g := (gName 6)) (by rfl) nd rfl rfl (sw_true rfl rfl rfl (by decide +kernel)) (pi_list (pv 1)) (blkOk_by (own := [("row", 6)]) (N := N__law_term) (sc := defScope s__law_term) (by decide +kernel)) (fun _ _ _ _ _ => pg_name (i := 6) nd rfl (.inl rfl)) (fun _ _ _ _ _ => (pts_one (pt_cmpR op_eq (pe_ix (r := rIxT K) ix_tup (pv 6) pe_int (fun _ _ => rfl)) pe_int (nomark _)))) (fun _ _ _ _ _ => (pv 6)))
      (C8.pss_cut (ps_if (PW.pt (pw_and (pt_cmpR op_gt (pv 2) pe_int (nomark _)) (pw_and1 (pt_cmpR op_gt (pe_call G1 (hr.mono (by omega)) (by rfl) T.g_law_roll T.f_law_roll.kp T.n_law_roll .nil pass0 (pa_cons (pv 0) (pa_cons pe_int pa_nil))) pe_int (nomark _))))) (pss_one (ps_set (i := 3) nd rfl (.inl rfl) (pv 1))) pss_nil)
      (pss_cons (ps_asg (pe_call G2 (hr.mono (by omega)) (by rfl) T.g_law_pick T.f_law_pick.kp T.n_law_pick .nil pass0 (pa_cons (pv 0) (pa_cons (pv 3) pa_nil))) (pg_tup rfl (pgs_cons (pg_name (i := 4) nd rfl (.inl rfl)) (pgs_cons (pg_name (i := 5) nd rfl (.inl rfl)) pgs_nil))))
      (pss_one (ps_ret (pe_op op_catA (pe_tup (pa_cons (pv 4) pa_nil)) (pe_callTy call_tuple_of (by rfl) T.b_tuple (by decide +kernel) (pa_cons (pe_lc (own := [("turn", 7)]) (g := (gName 7)) (tt := tYes) (by rfl) nd (pi_range1 (by rfl) T.b_range (pa_cons (pv 5) pa_nil)) (blkOk_by (own := [("turn", 7)]) (N := N__law_term) (sc := defScope s__law_term) (by decide +kernel)) (fun _ _ _ _ _ => pg_name (i := 7) nd rfl (.inl rfl)) (fun _ _ _ _ _ => pts_nil) (fun s1 H1 C1 cl1 fp1 => (pe_call G0 (hr.mono (by omega)) (by rfl) T.g_law_term T.f_law_term.kp T.n_law_term .nil pass0 (pa_cons (pv 0) (pa_cons (pv 1) (pa_cons (pe_op op_sub (pv 2) pe_int) pa_nil)))))) pa_nil)))))))), ?_⟩
      have lzs : zs.length ≤ 20 := by
        have := gd.few
        rwa [List.length_map] at this
      refine ⟨_, rfl, b, rfl, ⟨_, .inl (.inl ri.1)⟩, fun D nD => ?_⟩
      have smD := same_new (o := .lst []) nD
      have nDa := hd.ne nD
      refine lc_list (K := K) (a := b) (xs := zs.map fun z => V.ref z.1) (fun i H3 => Same H H3 ∧ ∃ ws : List Rw, RowsIn H3 D ws ∧ (∀ z, z ∈ ws → z ∈ zs ∧ z.2.2 = 0) ∧ (∀ (j : Nat) z, j < i → zs[j]? = some z → z.2.2 = 0 → z ∈ ws) ∧ ws.length ≤ i)
        ⟨smD, [], ⟨upd_same, fun z hz => (nomatch hz)⟩, fun z hz => (nomatch hz), fun j z h => absurd h (Nat.not_lt_zero _), Nat.le_refl _⟩ (fun i H3 _ h => .inl (.inl (h.1 _ _ ri.1))) ?_ ?_
      · rintro i y H3 hi ⟨sm, ws, rw3, h1, h2, l3⟩
        rw [List.getElem?_map] at hi
        obtain ⟨z, hz, rfl⟩ := Option.map_eq_some_iff.mp hi
        have lt : i < zs.length := (List.getElem?_eq_some_iff.mp hz).1
        have ez := sm _ _ (ri.2 z (List.mem_of_getElem? hz))
        refine ⟨rfl, _, rfl, z.1, _, 1, .int (z.2.2 : Int), rfl, rfl, SqT.of ez, atI_nat (j := 1) rfl, rfl, _, rfl, ite2 (fun e0 => ?_) (fun e0 => ?_)⟩
        · have z0 : z.2.2 = 0 := by
            have := of_decide_eq_true (p := V.int (z.2.2 : Int) = V.int 0) e0
            injection this with this
            exact Int.ofNat.inj this
          refine ⟨_, rfl, _, rw3.1, by rw [List.length_map]; exact small1000 (by omega), fun c o hc => ?_, ws ++ [z], rw3.add ez, fun y hy => ?_, fun j y hj hy h0 => ?_, by rw [List.length_append]; exact Nat.succ_le_succ l3⟩
          · rw [upd_ne (ne_of_none hc nD)]
            exact sm c o hc
          · rcases List.mem_append.mp hy with hy | hy
            · exact h1 y hy
            · rw [List.mem_singleton.mp hy]
              exact ⟨List.mem_of_getElem? hz, z0⟩
          · by_cases e : j = i
            · rw [e, hz] at hy
              cases hy
              exact List.mem_append_right _ (List.mem_singleton.mpr rfl)
            · exact List.mem_append_left _ (h2 j y (by omega) hy h0)
        · refine ⟨sm, ws, rw3, h1, fun j y hj hy h0 => ?_, by omega⟩
          by_cases e : j = i
          · rw [e, hz] at hy
            cases hy
            rw [h0] at e0
            exact absurd (decide_eq_true rfl) e0
          · exact h2 j y (by omega) hy h0
      rintro H3 ⟨sm, ws, rw3, h1, h2, l3⟩
      rw [List.length_map] at h2 l3
      have wne : ws ≠ [] := fun e => by
        obtain ⟨r, hr, r0⟩ := gd.cell
        obtain ⟨z, hz, rfl⟩ := List.mem_map.mp hr
        obtain ⟨j, hj⟩ := List.getElem?_of_mem hz
        have := h2 j z (List.getElem?_eq_some_iff.mp hj).1 hj r0
        rw [e] at this
        cases this
      refine ⟨fun σ' H' => But a H H' ∧ Dice H' a (m + 1) ∧ RowsIn H' b zs ∧ ∃ (s : Addr) (vs : List Rw), σ' = [some (.ref a), some (.ref b), some (.int ((n + 1 : Nat) : Int)), some (.ref s), none, none, none, none] ∧ RowsIn H' s vs ∧ s ≠ a ∧ vs ≠ [] ∧ vs.length ≤ 20 ∧ (∀ z, z ∈ vs → z ∈ zs) ∧ (n = 0 → ∀ z, z ∈ vs → z.2.2 = 0), ?_, ?_⟩
      · have stay : ∀ H', But a H3 H' → Dice H' a (m + 1) → But a H H' ∧ Dice H' a (m + 1) ∧ RowsIn H' b zs ∧ ∃ (s : Addr) (vs : List Rw), [some (V.ref a), some (.ref b), some (.int ((n + 1 : Nat) : Int)), some (.ref D), none, none, none, none] = [some (V.ref a), some (.ref b), some (.int ((n + 1 : Nat) : Int)), some (.ref s), none, none, none, none] ∧ RowsIn H' s vs ∧ s ≠ a ∧ vs ≠ [] ∧ vs.length ≤ 20 ∧ (∀ z, z ∈ vs → z ∈ zs) ∧ (n = 0 → ∀ z, z ∈ vs → z.2.2 = 0) := fun H' bt dd =>
          ⟨(But.of sm).trans bt, dd, (ri.up sm).but bt (hd.up sm) nba, D, ws, rfl, rw3.but bt (hd.up sm) nDa, nDa, wne, by omega, fun z hz => (h1 z hz).1, fun _ z hz => (h1 z hz).2⟩
        refine ⟨_, rfl, _, _, rfl, rfl, _, rfl, ite2 (fun e1 => ?_) (fun e1 => ?_)⟩
        · have n0 : n ≠ 0 := fun z => by
            have := of_decide_eq_true e1
            rw [z] at this
            exact absurd this (by decide)
          refine ⟨_, rfl, a, m, 3, rfl, hd.up sm, ?_, by decide, by decide, fun r H4 bt dd r0 r1 => ⟨_, _, rfl, rfl, _, rfl, ite2 (fun e2 => ?_) (fun e2 => ?_)⟩⟩
          · rw [cost] at hc
            omega
          · have ri4 := (ri.up sm).but bt (hd.up sm) nba
            refine ⟨_, rfl, (But.of sm).trans bt, dd, ri4, b, zs, rfl, ri4, nba, fun z => ?_, lzs, fun z hz => hz, fun z => absurd z n0⟩
            rw [z] at h1
            cases ws with
            | nil => exact wne rfl
            | cons y ws => cases (h1 y List.mem_cons_self).1
          · exact stay H4 bt dd
        · exact stay H3 (But.refl a H3) ((hd.up sm).le (Nat.le_succ m))
      rintro σ1 H5 ⟨bt5, dd5, ri5, s5, vs, rfl, rs5, ns5, vne, lvs, sub, leaf⟩
      have vp : 0 < vs.length := by
        cases vs with
        | nil => exact absurd rfl vne
        | cons _ _ => exact Nat.succ_pos _
      -- the pick
      refine ⟨_, rfl, _, rfl, a, s5, m + 1, _, rfl, dd5, ?_, .inl (.inl rs5.1), ns5, by rw [List.length_map]; exact vp, by rw [List.length_map]; omega, fun i v H6 bt6 dd6 hi => ?_⟩
      · rw [cost] at hc
        omega
      rw [List.getElem?_map] at hi
      obtain ⟨z, hz, rfl⟩ := Option.map_eq_some_iff.mp hi
      have zin := sub z (List.mem_of_getElem? hz)
      have leaf := fun e => leaf e z (List.mem_of_getElem? hz)
      have rs6 := rs5.but bt6 dd5 ns5
      have ri6 := ri5.but bt6 dd5 nba
      have ez := rs6.2 z (List.mem_of_getElem? hz)
      have gz := gd.nm z.2 (List.mem_map.mpr ⟨z, zin, rfl⟩)
      have zmem : z.2 ∈ zs.map Prod.snd := List.mem_map.mpr ⟨z, zin, rfl⟩
      have bt6 := bt5.trans bt6
      obtain ⟨za, nm, k⟩ := z
      dsimp only at gz leaf ez zmem
      refine ⟨za, _, rfl, SqT.of ez, rfl, _, _, rfl, _, _, rfl, rfl, ?_⟩
      -- the head
      refine ⟨_, rfl, (by show 1 ≤ sizeLine; decide), fun t nt => ?_⟩
      have smt := same_new (o := .tup [.str nm]) nt
      have nta := dd6.ne nt
      refine ⟨_, rfl, (k : Int), rfl, by omega, by omega, fun D2 nD2 => ?_⟩
      have smD2 := same_new (o := .lst []) nD2
      have nD2a := (dd6.up smt).ne nD2
      have btD := bt6.trans ((But.of smt).trans (But.of smD2))
      have nD2H := But.free (bt6.trans (But.of smt)) nD2a nD2
      have ek : ((k : Int)).toNat = k := Int.toNat_natCast k
      rw [ek]
      refine lc_range (fun i H7 => But a H H7 ∧ Dice H7 a (m + 2 + i * cost n) ∧ RowsIn H7 b zs ∧ H7 t = some (.tup [.str nm]) ∧ ∃ (ws : List V) (ds : List PyData), H7 D2 = some (.lst ws) ∧ DxAll K H7 ws ds ∧ ds.length = i ∧ formedAll ds = true ∧ (∀ r, r ∈ rowsAll ds → r ∈ zs.map Prod.snd) ∧ PyData.depthAll ds ≤ n)
        ⟨btD, (dd6.up (smt.trans smD2)).le (Nat.le_add_right _ _), ri6.up (smt.trans smD2), smD2 _ _ upd_same, [], [], upd_same, .nil, rfl, rfl, fun r h => (nomatch h), Nat.zero_le _⟩ ?_ ?_
      · rintro i H7 hi ⟨bt7, dd7, ri7, et7, ws7, ds7, eD7, dx7, l7, f7, r7, p7⟩
        have n0 : 0 < n := by
          cases n with
          | zero =>
            have := leaf rfl
            omega
          | succ n => exact Nat.succ_pos _
        refine ⟨rfl, (iteT (B := False) ?_ : if true = true then _ else False)⟩
        have c1 : cost (n + 1) = 2 + 3 * cost n := rfl
        have ic : i * cost n + cost n ≤ 3 * cost n := by
          have := Nat.mul_le_mul_right (cost n) (show i + 1 ≤ 3 by omega)
          rwa [Nat.add_mul, Nat.one_mul] at this
        refine ⟨_, rfl, _, rfl, _, rfl, _, _, rfl, rfl, a, b, m + 2 + i * cost n, zs, ?_, n0, dd7, by omega, ri7, nba, gd, fun x d H8 bt8 dd8 hx tm => ?_⟩
        · show [V.ref a, V.ref b, V.int (((n + 1 : Nat) : Int) - 1)] = _
          rw [show ((n + 1 : Nat) : Int) - 1 = (n : Int) by omega]
        · have ts := Tups.but bt8 dd7
          have eD8 := bt8 _ _ eD7 nD2a
          have tD : Tups H8 (upd H8 D2 (.lst (ws7 ++ [x]))) := Tups.lst eD8
          have lw := dx7.length
          refine ⟨ws7, eD8, small1000 (by omega), (bt7.trans bt8).put nD2H, (dd8.put nD2a).le (by rw [Nat.add_mul, Nat.one_mul]; omega), ?_, tD _ _ (ts _ _ et7), ws7 ++ [x], ds7 ++ [d], upd_same, DxAll.append (DxAll.ts (ts.trans tD) _ _ (pure_formedAll _ f7) dx7) (.cons (Dx.ts tD _ _ (pure_formed _ tm.fm) hx) .nil), by rw [List.length_append, l7]; rfl, by rw [formedAll_snoc, f7, tm.fm]; rfl, fun r hr => ?_, depthAll_snoc p7 tm.dp⟩
          · exact ((ri7.but bt8 dd7 nba).off eD8 (ne_of_none ri.1 nD2H).symm)
          · rw [rowsAll_append] at hr
            rcases List.mem_append.mp hr with h | h
            · exact r7 r h
            · simp only [rowsAll, List.append_nil] at h
              exact tm.rw r h
      · rintro H7 ⟨bt7, dd7, ri7, et7, ws7, ds7, eD7, dx7, l7, f7, r7, p7⟩
        have lw := dx7.length
        have c1 : cost (n + 1) = 2 + 3 * cost n := rfl
        have kc : k * cost n ≤ 3 * cost n := Nat.mul_le_mul_right (cost n) gz.2
        refine ⟨D2, ws7, rfl, .inl ⟨.inl (.inl eD7), fun u nu => ?_⟩⟩
        have smu := same_new (o := .tup ws7) nu
        have et8 := smu _ _ et7
        have dx8 := dx7.up smu
        have fm : formedD (.tuple (.str nm :: ds7)) = true := by
          simp [formedD, nameD, gz.1, f7, l7, gz.2]
        have tm : Tm (zs.map Prod.snd) (n + 1) (.tuple (.str nm :: ds7)) := by
          refine ⟨fm, fun r hr => ?_, ?_⟩
          · rw [rowsD, headD, l7] at hr
            rcases List.mem_cons.mp hr with h | h
            · rw [h]
              exact zmem
            · exact r7 r h
          · simp only [PyData.depth, PyData.depthAll]
            omega
        have bt8 := bt7.trans (But.of smu)
        have dd8 := (dd7.up smu).le (show m + 2 + k * cost n ≤ m + cost (n + 1) by omega)
        refine ⟨t, u, _, _, rfl, rfl, SqT.of et8, SqT.of upd_same, Nat.le_of_lt (small1000 (by rw [List.length_singleton]; omega)), fun z => (nomatch z), fun _ e => ?_, fun _ _ v nv => ?_⟩
        · subst e
          cases dx8
          exact q _ _ _ bt8 dd8 (.tup et8 (.cons (.str _) .nil)) tm
        · have smv := same_new (o := .tup ([V.str nm] ++ ws7)) nv
          exact q _ _ _ (bt8.trans (But.of smv)) (dd8.up smv) (.tup upd_same (.cons (.str _) (dx8.up smv))) tm
end
end K03
/-! A lambda handed to a def that tells by two except clauses. -/
namespace Kx
open PySem PySem.Spec PyProof.Rows L2 LamX
theorem takes00 {X : Cx} : Takes X (fun _ _ _ _ => False) := LamX.takes0
def Told2 (K : PySem.W.Frag) (C1 C2 : Addr) (r1 r2 : Str) (Q : VK) : XK := fun cls _ H' =>
  ∃ b, PySem.W.exmOne K cls (.ref C1) = some b ∧ (b = true → Q (.str r1) H') ∧ (b = false → ∃ b2, PySem.W.exmOne K cls (.ref C2) = some b2 ∧ (b2 = true → Q (.str r2) H') ∧ (b2 = false → False))
def TTold2 (K : PySem.W.Frag) (C1 C2 : Addr) (r1 r2 : Str) : (XK → Hp → VK → Prop) → Hp → VK → Prop := fun tl H Q => tl (Told2 K C1 C2 r1 r2 Q) H Q
theorem told_gives2 {X : Cx} {Ng : List Str} {x a e1 e2 q r1 r2 : Str} {sg : Scope} {g C1 C2 : Addr} {cdg : Value} {j1 j2 : Nat} {p1 p2 p3 p4 p5 p6 p7 p8 p9 p10 p11 p12 : Pos}
    (hg1 : sg.names.lookup e1 = some .globalImplicit) (hm1 : X.mg e1 = some (.ref C1)) (hd1 : (e1 == ("__debug__" : Str)) = false)
    (hg2 : sg.names.lookup e2 = some .globalImplicit) (hm2 : X.mg e2 = some (.ref C2)) (hd2 : (e2 == ("__debug__" : Str)) = false) (h0 : ∀ f : Addr, (L2.start Ng [V.ref f])[0]? = some (some (V.ref f))) :
    GivesTo X Ng x sg g cdg [.Try [.Return (some (.Call (.Name a p1) [] [] p2)) p3] [.ExceptHandler (some (.Name e1 p4)) none [.Return (some (.Constant (.str r1) j1 p5)) p6] p7, .ExceptHandler (some (.Name e2 p9)) none [.Return (some (.Constant (.str r2) j2 p10)) p11] p12] [] [] p8] a q (TTold2 X.K C1 C2 r1 r2) := by
  intro f c' s H Q tl act hc h
  have gl1 : Gl (cxOf C8.CX0 X.prog X.w X.K X.mg X.base Ng x sg g cdg X.A X.stack s H C8.E0).nox e1 := hg1
  have gl2 : Gl (cxOf C8.CX0 X.prog X.w X.K X.mg X.base Ng x sg g cdg X.A X.stack s H C8.E0).nox e2 := hg2
  refine ⟨_, pss_one (ps_try_many (X := (cxOf C8.CX0 X.prog X.w X.K X.mg X.base Ng x sg g cdg X.A X.stack s H C8.E0).nox)
      (tb := fun W D σ H => ∃ Ech : XK, (∀ cls d σ' H', Ech cls d H' → W cls d σ' H') ∧ σ[0]? = some (some (.ref f)) ∧ H c' = some (CodeO c' q) ∧ tl Ech H D.rt)
      rfl rfl takes00 (fun W pn xe tk _ => ?_) (.cons ⟨gl1, hd1, .inl hm1⟩ (fun a oe cls d pn _ _ => pss_one (ps_ret pe_str)) (.cons ⟨gl2, hd2, .inl hm2⟩ (fun a oe cls d pn _ _ => pss_one (ps_ret pe_str)) .nil))), ?_⟩
  · refine ⟨fun pins s' σ H' D I h' => ?_⟩
    obtain ⟨Ech, hW, h1, h2, h3⟩ := h'
    have hp := act W pn xe Ech p1 p2 tk hW
    have hq := pss_one (ps_ret (pos := p3) hp)
    exact hq.run pins s' σ H' D I ⟨h1, h2, h3⟩
  · refine ⟨Told2 X.K C1 C2 r1 r2 Q, fun cls d σ' H' ⟨b, e1, q1, q2⟩ => ⟨b, e1, fun hb a _ => q1 hb, fun hb => ?_⟩, h0 f, hc, h⟩
    obtain ⟨b2, e2, z1, z2⟩ := q2 hb
    exact ⟨b2, e2, fun hb a _ => z1 hb, fun hb => z2 hb⟩
end Kx
/-! Tables of code objects beside the dice; what a def's code is. -/
namespace Kx
open PySem PySem.Spec PyProof.Rows L2 LamX
/-- a def by its body, its code object told -/
theorem okC {P : Program} {w : World} {K : PySem.W.Frag} {mg : Str → Option Value} {base : Heap} {x qual : Str} {st : Stmt} {f : Addr} {fd : FuncData} {N ps : List Str} {k : Nat} {sp : Sp} (F : Fun K x qual st f fd) (S : FnScope N ps (defScope st)) (len : ∀ vs H Q E, sp vs H Q E → vs.length = ps.length)
    (hbody : ∀ (cdv : Value) (A : Around) (outer : List Env) (s : Shared) (H : Hp) (vs : List V) (Q : VK) (E : XK), fd.code = cdv → Room k (A.deeper (envOfC qual (defScope st) s.heap.objs.size f cdv)) → sp vs H Q E →
      ∃ t, PSs (cxOf CX0 P w K mg base N qual (defScope st) f cdv A outer s H E).nox (defBody st) t ∧ t { nx := fun _ H' => Q .non H', rt := Q } (start N vs) H) : FnOk P w K mg base CX0 (k + 1) f fd ps sp := by
  obtain ⟨oc, od, kV, doc, pm, an, cdv, ct, osl, rfl, lk, hcd⟩ := F.ex
  refine fn_of lk hcd S len fun A outer s H vs Q E hr hsp => ?_
  obtain ⟨t, h, q⟩ := hbody cdv A outer s H vs Q E rfl hr hsp
  exact ⟨t, h.nox, q⟩
end Kx
namespace K03
open PySem PySem.Spec PyProof.Rows L2 Kx LamX
/-- what is said of the makers of lambdas -/
structure Ty {K : PySem.W.Frag} {mg : Str → Option Value} (T : Tx K mg) where
  eOT : PySem.W.exmOne K (.ref T.CInvalidOperation) (.ref T.CInvalidTerm) = some false
  cR : Addr
  PR : Addr
  cN : Addr
  PN : Addr
  codeR : T.d_law_replaced_right.code = .ref cR
  codeN : T.d_law_renamed_right.code = .ref cN
  ne : PR ≠ PN
abbrev qR : Str := (("_law_replaced_right" : Str) ++ ".<locals>.") ++ "<lambda>"
abbrev qN : Str := (("_law_renamed_right" : Str) ++ ".<locals>.") ++ "<lambda>"
def Ty.T {K : PySem.W.Frag} {mg : Str → Option Value} {T : Tx K mg} (Y : Ty T) : List (Addr × Str) := [(Y.PR, qR), (Y.PN, qN)]
theorem Ty.hR {K : PySem.W.Frag} {mg : Str → Option Value} {T : Tx K mg} (Y : Ty T) : (Y.PR, qR) ∈ Y.T ∧ ∀ p ∈ Y.T, p.1 = Y.PR → p.2 = qR :=
  ⟨List.mem_cons_self, fun p hp e => by
    rcases List.mem_cons.mp hp with h | h
    · rw [h]
    · rw [List.mem_singleton.mp h] at e
      exact absurd e.symm Y.ne⟩
theorem Ty.hN {K : PySem.W.Frag} {mg : Str → Option Value} {T : Tx K mg} (Y : Ty T) : (Y.PN, qN) ∈ Y.T ∧ ∀ p ∈ Y.T, p.1 = Y.PN → p.2 = qN :=
  ⟨List.mem_cons_of_mem _ List.mem_cons_self, fun p hp e => by
    rcases List.mem_cons.mp hp with h | h
    · rw [h] at e
      exact absurd e Y.ne
    · rw [List.mem_singleton.mp h]⟩
/-- all but the dice and the tables stay -/
def Bt (a : Addr) (H H' : Hp) : Prop := ∀ b o, H b = some o → b ≠ a → (∀ ps, o ≠ .tbl ps) → H' b = some o
section
variable {a b : Addr} {n : Nat} {H H' H1 H2 : Hp} {K : PySem.W.Frag} {T : List (Addr × Str)}
theorem Bt.refl : Bt a H H := fun _ _ h _ _ => h
theorem Bt.but (x : But a H H') : Bt a H H' := fun b o h m _ => x b o h m
theorem Bt.same (x : Same H H') : Bt a H H' := fun b o h _ _ => x b o h
theorem Bt.ext (x : ExtN H H') : Bt a H H' := fun b o h _ m => x b o h m
theorem Bt.trans (x : Bt a H H1) (y : Bt a H1 H2) : Bt a H H2 := fun b o h m k => y b o (x b o h m k) m k
theorem Bt.tups (x : Bt a H H') (d : Dice H a n) : Tups H H' := fun b xs h => by
  obtain ⟨_, _, _, z, _⟩ := d
  exact x b _ h (ne_of h z (fun e => nomatch e)) (fun ps e => nomatch e)
theorem Bt.dx (x : Bt a H H') (d : Dice H a n) {v : V} {e : PyData} (f : formedD e = true) (h : Dx K H v e) : Dx K H' v e := Dx.ts (x.tups d) e v (pure_formed e f) h
theorem Bt.rows (x : Bt a H H') (d : Dice H a n) {f : Addr} {zs : List Rw} (h : RowsIn H f zs) (nf : f ≠ a) : RowsIn H' f zs := by
  obtain ⟨_, _, _, hz, _⟩ := d
  exact ⟨x _ _ h.1 nf (fun ps e => nomatch e), fun z m => x _ _ (h.2 z m) (ne_of (h.2 z m) hz (fun e => nomatch e)) (fun ps e => nomatch e)⟩
theorem dice_ext (d : Dice H a n) (x : ExtN H H') : Dice H' a n := by
  obtain ⟨i0, i1, i2, z, r⟩ := d
  exact ⟨i0, i1, i2, x _ _ z (fun ps e => nomatch e), r⟩
theorem tabs_same (t : Tabs T H) (x : Same H H') : Tabs T H' := t.ext x
theorem tabs_but (t : Tabs T H) (x : But a H H') (d : Dice H a n) : Tabs T H' := fun p hp => by
  obtain ⟨_, _, _, hz, _⟩ := d
  obtain ⟨ps, h1, h2, h3⟩ := t p hp
  refine ⟨ps, x _ _ h1 (ne_of h1 hz (fun e => nomatch e)), h2, fun pos cv hc => ?_⟩
  obtain ⟨c, e1, e2⟩ := h3 pos cv hc
  exact ⟨c, e1, x _ _ e2 (ne_of e2 hz (fun e => by unfold CodeO at e; cases e))⟩
end
end K03
/-! How great a term is where another one is put in. -/
namespace K03
open PySem PySem.Spec PyProof.Rows L2 Kx
mutual
theorem sz_pre : ∀ d : PyData, formedD d = true → szD d = 2 * (preD d).length
  | .tuple (x :: ds), h => by
    rw [formedD, Bool.and_eq_true, Bool.and_eq_true] at h
    have hx : szD x = 1 := by
      cases x with
      | str z => rfl
      | _ => cases h.1.2
    rw [szD, szAll, preD, List.length_cons, hx, sz_pres ds h.2]
    omega
  | .tuple [], h => by cases h
  | .none, h => by cases h
  | .bool _, h => by cases h
  | .int _, h => by cases h
  | .str _, h => by cases h
  | .list _, h => by cases h
  | .dict _, h => by cases h
theorem sz_pres : ∀ ds : List PyData, formedAll ds = true → szAll ds = 2 * (preAll ds).length
  | [], _ => rfl
  | d :: ds, h => by
    rw [formedAll, Bool.and_eq_true] at h
    rw [szAll, preAll, List.length_append, sz_pre d h.1, sz_pres ds h.2]
    omega
end
mutual
theorem put_pre {o c : PyData} {M : Nat} (m1 : 1 ≤ M) (h : (preD c).length ≤ M * (preD o).length) : ∀ d : PyData, formedD d = true → (preD (putD o c d)).length ≤ M * (preD d).length
  | .tuple (x :: ds), f => by
    rw [putD]
    split
    · rename_i e
      rw [(eqv_iff f).mp e]
      exact h
    · rw [formedD, Bool.and_eq_true] at f
      rw [preD, preD, List.length_cons, List.length_cons, Nat.mul_add]
      have := put_pres m1 h ds f.2
      omega
  | .tuple [], h => by cases h
  | .none, h => by cases h
  | .bool _, h => by cases h
  | .int _, h => by cases h
  | .str _, h => by cases h
  | .list _, h => by cases h
  | .dict _, h => by cases h
theorem put_pres {o c : PyData} {M : Nat} (m1 : 1 ≤ M) (h : (preD c).length ≤ M * (preD o).length) : ∀ ds : List PyData, formedAll ds = true → (preAll (putAll o c ds)).length ≤ M * (preAll ds).length
  | [], _ => Nat.zero_le _
  | d :: ds, f => by
    rw [formedAll, Bool.and_eq_true] at f
    rw [putAll, preAll, preAll, List.length_append, List.length_append, Nat.mul_add]
    have := put_pre m1 h d f.1
    have := put_pres m1 h ds f.2
    omega
end
mutual
theorem put_depth {o c : PyData} : ∀ d : PyData, (putD o c d).depth ≤ d.depth + c.depth
  | .tuple (x :: ds) => by
    rw [putD]
    split
    · omega
    · have := put_depths (o := o) (c := c) ds
      simp only [PyData.depth, PyData.depthAll]
      omega
  | .tuple [] => by
    rw [putD]
    split <;> omega
    simp
  | .none => by rw [putD]; split <;> omega
                simp
  | .bool _ => by rw [putD]; split <;> omega
                  simp
  | .int _ => by rw [putD]; split <;> omega
                 simp
  | .str _ => by rw [putD]; split <;> omega
                 simp
  | .list _ => by rw [putD]; split <;> omega
                  simp
  | .dict _ => by rw [putD]; split <;> omega
                  simp
theorem put_depths {o c : PyData} : ∀ ds : List PyData, PyData.depthAll (putAll o c ds) ≤ PyData.depthAll ds + c.depth
  | [] => by simp [putAll, PyData.depthAll]
  | d :: ds => by
    have := put_depth (o := o) (c := c) d
    have := put_depths (o := o) (c := c) ds
    rw [putAll, PyData.depthAll, PyData.depthAll]
    omega
end
mutual
theorem put_rows {o c : PyData} {r : NK} : ∀ d : PyData, formedD d = true → r ∈ rowsD (putD o c d) → r ∈ rowsD d ∨ r ∈ rowsD c
  | .tuple (x :: ds), f, h => by
    rw [putD] at h
    split at h
    · exact .inr h
    · rw [formedD, Bool.and_eq_true] at f
      rw [rowsD] at h
      rcases List.mem_cons.mp h with e | h
      · refine .inl ?_
        rw [rowsD, e, putAll_map, List.length_map]
        exact List.mem_cons_self
      · rcases put_rowss ds f.2 h with h | h
        · refine .inl ?_
          rw [rowsD]
          exact List.mem_cons_of_mem _ h
        · exact .inr h
  | .tuple [], f, _ => by cases f
  | .none, f, _ => by cases f
  | .bool _, f, _ => by cases f
  | .int _, f, _ => by cases f
  | .str _, f, _ => by cases f
  | .list _, f, _ => by cases f
  | .dict _, f, _ => by cases f
theorem put_rowss {o c : PyData} {r : NK} : ∀ ds : List PyData, formedAll ds = true → r ∈ rowsAll (putAll o c ds) → r ∈ rowsAll ds ∨ r ∈ rowsD c
  | [], _, h => by cases h
  | d :: ds, f, h => by
    rw [formedAll, Bool.and_eq_true] at f
    rw [putAll, rowsAll] at h
    rw [rowsAll]
    rcases List.mem_append.mp h with h | h
    · rcases put_rows d f.1 h with h | h
      · exact .inl (List.mem_append_left _ h)
      · exact .inr h
    · rcases put_rowss ds f.2 h with h | h
      · exact .inl (List.mem_append_right _ h)
      · exact .inr h
end
def most : Nat → Nat
  | 0 => 0
  | n + 1 => 1 + 3 * most n
theorem pre_most : ∀ (n : Nat) (d : PyData), formedD d = true → d.depth ≤ n → (preD d).length ≤ most n
  | 0, d, f, h => by
    obtain ⟨x, ds, rfl, _⟩ := formed_shape f
    simp [PyData.depth] at h
  | n + 1, d, f, h => by
    obtain ⟨x, ds, rfl, l3, _, fa⟩ := formed_shape f
    have hd : PyData.depthAll ds ≤ n := by
      simp only [PyData.depth, PyData.depthAll] at h
      omega
    have key : ∀ es : List PyData, formedAll es = true → PyData.depthAll es ≤ n → (preAll es).length ≤ es.length * most n := by
      intro es
      induction es with
      | nil => intro _ _; exact Nat.zero_le _
      | cons e es ih =>
        intro fe he
        rw [formedAll, Bool.and_eq_true] at fe
        rw [PyData.depthAll] at he
        have := pre_most n e fe.1 (by omega)
        have := ih fe.2 (by omega)
        rw [preAll, List.length_append, List.length_cons, Nat.succ_mul]
        omega
    have := key ds fa hd
    have : ds.length * most n ≤ 3 * most n := Nat.mul_le_mul_right _ l3
    rw [preD, List.length_cons, most]
    omega
mutual
theorem part_of {e : PyData} : ∀ d : PyData, e ∈ belD d → e.depth ≤ d.depth ∧ ∀ r, r ∈ rowsD e → r ∈ rowsD d
  | .tuple (x :: ds), h => by
    rw [belD] at h
    rcases List.mem_append.mp h with h | h
    · obtain ⟨a, b⟩ := part_ofs ds h
      refine ⟨?_, fun r hr => ?_⟩
      · simp only [PyData.depth, PyData.depthAll]
        omega
      · rw [rowsD]
        exact List.mem_cons_of_mem _ (b r hr)
    · rw [List.mem_singleton.mp h]
      exact ⟨Nat.le_refl _, fun r hr => hr⟩
  | .tuple [], h => by
    rw [belD, List.mem_singleton] at h
    rw [h]
    exact ⟨Nat.le_refl _, fun r hr => hr⟩
    simp
  | .none, h => by
    rw [belD, List.mem_singleton] at h
    rw [h]
    exact ⟨Nat.le_refl _, fun r hr => hr⟩
    simp
  | .bool _, h => by
    rw [belD, List.mem_singleton] at h
    rw [h]
    exact ⟨Nat.le_refl _, fun r hr => hr⟩
    simp
  | .int _, h => by
    rw [belD, List.mem_singleton] at h
    rw [h]
    exact ⟨Nat.le_refl _, fun r hr => hr⟩
    simp
  | .str _, h => by
    rw [belD, List.mem_singleton] at h
    rw [h]
    exact ⟨Nat.le_refl _, fun r hr => hr⟩
    simp
  | .list _, h => by
    rw [belD, List.mem_singleton] at h
    rw [h]
    exact ⟨Nat.le_refl _, fun r hr => hr⟩
    simp
  | .dict _, h => by
    rw [belD, List.mem_singleton] at h
    rw [h]
    exact ⟨Nat.le_refl _, fun r hr => hr⟩
    simp
theorem part_ofs {e : PyData} : ∀ ds : List PyData, e ∈ belAll ds → e.depth ≤ PyData.depthAll ds ∧ ∀ r, r ∈ rowsD e → r ∈ rowsAll ds
  | [], h => by cases h
  | d :: ds, h => by
    rw [belAll] at h
    rw [PyData.depthAll, rowsAll]
    rcases List.mem_append.mp h with h | h
    · obtain ⟨a, b⟩ := part_of d h
      exact ⟨by omega, fun r hr => List.mem_append_left _ (b r hr)⟩
    · obtain ⟨a, b⟩ := part_ofs ds h
      exact ⟨by omega, fun r hr => List.mem_append_right _ (b r hr)⟩
end
/-- parts of a term have its names, and are no deeper -/
theorem Tm.part {rs : List NK} {n : Nat} {d e : PyData} (h : Tm rs n d) (m : e ∈ belD d) : Tm rs n e := by
  obtain ⟨a, b⟩ := part_of d m
  exact ⟨bel_formed d h.fm e m, fun r hr => h.rw r (b r hr), Nat.le_trans a h.dp⟩
theorem Tm.term {rs : List NK} {n : Nat} {d : PyData} (h : Tm rs n d) (g : Good rs) : termD d = true := by
  have fn : Func (rowsD d) := fun r hr t ht e => g.fn r (h.rw r hr) t (h.rw t ht) e
  rw [termD, h.fm, decide_eq_true fn]
  rfl
theorem Tm.le {rs : List NK} {n k : Nat} {d : PyData} (h : Tm rs n d) (l : n ≤ k) : Tm rs k d := ⟨h.fm, h.rw, Nat.le_trans h.dp l⟩
theorem DxAll.at {K : PySem.W.Frag} {H : Hp} {xs : List V} {ds : List PyData} {i : Nat} {v : V} (h : DxAll K H xs ds) (e : xs[i]? = some v) : ∃ d, d ∈ ds ∧ Dx K H v d := by
  have lt := (List.getElem?_eq_some_iff.mp e).1
  have lt2 : i < ds.length := by rw [← h.length]; exact lt
  obtain ⟨v2, hv2, dv2⟩ := h.get (List.getElem?_eq_getElem lt2)
  rw [e] at hv2
  cases hv2
  exact ⟨_, List.getElem_mem lt2, dv2⟩
def extra : List NK := [("g", 1), ("hh", 2), ("a", 0), ("f", 1)]
/-- a term that is put in the place of e -/
structure Nw (rs : List NK) (e c : PyData) : Prop where
  fm : formedD c = true
  rw : ∀ r, r ∈ rowsD c → r ∈ rs ++ extra
  dp : c.depth ≤ 5
  ln : (preD c).length ≤ 13 * (preD e).length
theorem fm_g {e : PyData} (f : formedD e = true) : formedD (.tuple [.str "g", e]) = true := by
  have : nameD (.str "g") = true := by decide +kernel
  simp [formedD, formedAll, f, this]
theorem fm_hh {e : PyData} (f : formedD e = true) : formedD (.tuple [.str "hh", e, e]) = true := by
  have : nameD (.str "hh") = true := by decide +kernel
  simp [formedD, formedAll, f, this]
theorem fm_f {e : PyData} (f : formedD e = true) : formedD (.tuple [.str "f", e]) = true := by
  have : nameD (.str "f") = true := by decide +kernel
  simp [formedD, formedAll, f, this]
theorem fm_a : formedD (.tuple [.str "a"]) = true := by decide +kernel
theorem nw_all {rs : List NK} {e e3 : PyData} (te : Tm rs 4 e) (t3 : Tm rs 3 e3) : ∀ c, c ∈ [e3, .tuple [.str "g", e], .tuple [.str "hh", e, e], e, .tuple [.str "a"], .tuple [.str "f", .tuple [.str "a"]]] → Nw rs e c := by
  have p0 := pre_pos (d := e)
  have de := te.dp
  intro c hc
  rcases List.mem_cons.mp hc with h | hc
  · subst h
    have : (preD c).length ≤ 13 := pre_most 3 c t3.fm t3.dp
    exact ⟨t3.fm, fun r hr => List.mem_append_left _ (t3.rw r hr), by have := t3.dp; omega, by omega⟩
  rcases List.mem_cons.mp hc with h | hc
  · subst h
    refine ⟨fm_g te.fm, fun r hr => ?_, by simp [PyData.depth, PyData.depthAll]; omega, by simp [preD, preAll]; omega⟩
    rw [rowsD, rowsAll, rowsAll, List.append_nil] at hr
    rcases List.mem_cons.mp hr with h | hr
    · rw [h]
      exact List.mem_append_right _ (by simp [extra, headD])
    · exact List.mem_append_left _ (te.rw r hr)
  rcases List.mem_cons.mp hc with h | hc
  · subst h
    refine ⟨fm_hh te.fm, fun r hr => ?_, by simp [PyData.depth, PyData.depthAll]; omega, by simp [preD, preAll]; omega⟩
    rw [rowsD, rowsAll, rowsAll, rowsAll, List.append_nil] at hr
    rcases List.mem_cons.mp hr with h | hr
    · rw [h]
      exact List.mem_append_right _ (by simp [extra, headD])
    · rcases List.mem_append.mp hr with hr | hr <;> exact List.mem_append_left _ (te.rw r hr)
  rcases List.mem_cons.mp hc with h | hc
  · subst h
    exact ⟨te.fm, fun r hr => List.mem_append_left _ (te.rw r hr), by omega, by omega⟩
  rcases List.mem_cons.mp hc with h | hc
  · subst h
    refine ⟨fm_a, fun r hr => ?_, by simp [PyData.depth, PyData.depthAll], by simp [preD, preAll]; omega⟩
    rw [rowsD, rowsAll] at hr
    rw [List.mem_singleton.mp hr]
    exact List.mem_append_right _ (by simp [extra, headD])
  · rw [List.mem_singleton.mp hc]
    refine ⟨fm_f fm_a, fun r hr => ?_, by simp [PyData.depth, PyData.depthAll], by simp [preD, preAll]; omega⟩
    rw [rowsD, rowsAll, rowsAll, rowsD, rowsAll, List.append_nil] at hr
    rcases List.mem_cons.mp hr with h | hr
    · rw [h]
      exact List.mem_append_right _ (by simp [extra, headD])
    · rw [List.mem_singleton.mp hr]
      exact List.mem_append_right _ (by simp [extra, headD])
end K03
/-! The law of k03: replaced. -/
namespace K03
open PySem PySem.Spec PyProof.Rows L2 Kx LamX
theorem formedAll_of : ∀ {ds : List PyData}, (∀ e, e ∈ ds → formedD e = true) → formedAll ds = true
  | [], _ => rfl
  | d :: ds, h => by rw [formedAll, h d List.mem_cons_self, formedAll_of fun e he => h e (List.mem_cons_of_mem _ he)]; rfl
theorem pe_told {X : Cx} (T : Tx X.K X.mg) {c P : Addr} {tabs : List (Addr × Str)} {params : Arguments} {body : Expr} {scope : Scope} {t : XK → TE} {k : Nat} {p lpos pos : Pos} (hg : Gl X "_law_told")
    (TB : TabB X.base X.mg c P) (hcode : X.env.code = .ref c) (hmT : (P, X.env.qual ++ "<lambda>") ∈ tabs) (hu : ∀ p ∈ tabs, p.1 = P → p.2 = X.env.qual ++ "<lambda>") (hr : Room (k + 2) X.A) (L : LamS X.env.scope scope) (hdef : defaultsOf params X.env = ([], []))
    (hbind : ∀ (q : Str) (cl : List (Str × Addr)) (pm cv ctv : Value), bindArgs (PySem.W.kla_fn "<lambda>" q params body scope cl pm cv ctv) ⟨[], []⟩ = pure [])
    (hbody : ∀ (A : Around) (outer : List Env) (s : Shared) (H : Hp) (E : XK) (f c' : Addr), Room k (A.deeper (lamEnv X scope s.heap.objs.size f c')) → PE (lamCx X A outer s H E scope f c') body (t E)) :
    PE X (.Call (.Name "_law_told" p) [.Lambda params body scope lpos] [] pos) (tLam tabs (TTold2 X.K T.CInvalidTerm T.CInvalidOperation "term" "operation") t) := by
  obtain ⟨oc, od, kV, doc, pm, an, cdv, ct, osl, ed, lk, hcd⟩ := T.f_law_told.ex
  have nb := T.n_law_told
  rw [ed] at lk nb
  exact pe_lamcall (Ng := N__law_told) hg T.g_law_told T.f_law_told.kp lk hcd nb sc__law_told rfl (.inl rfl) (told_gives2 (by rfl) T.gInvalidTerm (by decide) (by rfl) T.gInvalidOperation (by decide) (fun f => rfl)) TB hcode hmT hu hr L hdef hbind hbody
section
variable {P : Program} {w : World} {K : PySem.W.Frag} {mg : Str → Option Value} {base : Heap}
def spLts (K : PySem.W.Frag) : Sp := fun vs H Q E => ∃ (a b : Addr) (t : Int) (n : Nat), vs = [.ref a, .ref b, .int t] ∧ t = n ∧ n ≤ 4 ∧ spLt K n [.ref a, .ref b, .int (n : Int)] H Q E
theorem ok_lts (T : Tx K mg) : FnOk P w K mg base CX0 7 T.a_law_term T.d_law_term ["dice", "names", "deep"] (spLts K) :=
  ⟨fun vs H Q E ⟨a, b, t, n, e, _⟩ => by rw [e]; rfl, fun A outer s H args us vs Q E hr e0 b r ⟨a, c, t, n, e, et, hn, h⟩ => by
    subst et
    subst e
    exact (ok_lt (P := P) (w := w) (base := base) T n).run A outer s H args us _ Q E (hr.mono (by omega)) e0 b r h⟩
def spRr (K : PySem.W.Frag) (tabs : List (Addr × Str)) : Sp := fun vs H Q _ => ∃ (a b : Addr) (m : Nat) (zs : List Rw) (x : V) (d : PyData), vs = [.ref a, .ref b, x] ∧ Dice H a m ∧ m + 160 < cap ∧ RowsIn H b zs ∧ b ≠ a ∧ Good (zs.map Prod.snd) ∧ Dx K H x d ∧ Tm (zs.map Prod.snd) 4 d ∧ Tabs tabs H ∧
  ∀ H', Bt a H H' → Dice H' a (m + 160) → Tabs tabs H' → Q (.bl true) H'
theorem ok_rr (T : Tx K mg) (Y : Ty T) (TB : TabB base mg Y.cR Y.PR) : FnOk P w K mg base CX0 12 T.a_law_replaced_right T.d_law_replaced_right ["dice", "names", "term"] (spRr K Y.T) := by
  have nd := sc__law_replaced_right.nd
  have Gbl := ok_bl (P := P) (w := w) (base := base) T 4
  have Glt := ok_lts (P := P) (w := w) (base := base) T
  have Gil := ok_il (P := P) (w := w) (base := base) T 9 (by decide)
  have Glp := ok_lp (P := P) (w := w) (base := base) T 4 (by decide)
  have Gpick := ok_pick (P := P) (w := w) (base := base) T
  have Grep := ok_rep (P := P) (w := w) (base := base) T
  refine okC T.f_law_replaced_right sc__law_replaced_right (fun vs H Q E h => ?_) (fun cdv A outer s H vs Q E ecd hr h => ?_)
  · obtain ⟨a, b, m, zs, x, d, rfl, _⟩ := h
    rfl
  · obtain ⟨a, b, m, zs, x, d, rfl, hd, hm, ri, nba, gd, dx, tm, tt, q⟩ := h
    have ec : cdv = .ref Y.cR := by rw [← ecd, Y.codeR]
    refine ⟨_, (pss_cons (ps_for PassesOwn.never rfl (pi_range1 (by rfl) T.b_range (pa_cons pe_int pa_nil)) (pg_name (i := 3) nd rfl (.inl rfl))
      (pss_cons (ps_set (i := 8) nd rfl (.inr rfl) (pe_call Gpick (hr.mono (by omega)) (by rfl) T.g_law_pick T.f_law_pick.kp T.n_law_pick .nil pass0 (pa_cons (pv 0) (pa_cons (pe_op op_cat (pe_call Gbl (hr.mono (by omega)) (by rfl) T.g_law_below T.f_law_below.kp T.n_law_below .nil pass0 (pa_cons (pv 2) pa_nil)) (pe_lst (pa_cons (pe_call Glt (hr.mono (by omega)) (by rfl) T.g_law_term T.f_law_term.kp T.n_law_term .nil pass0 (pa_cons (pv 0) (pa_cons (pv 1) (pa_cons pe_int pa_nil)))) pa_nil))) pa_nil))))
      (pss_cons (ps_set (i := 4) nd rfl (.inl rfl) (pe_lst (pa_cons (pe_call Glt (hr.mono (by omega)) (by rfl) T.g_law_term T.f_law_term.kp T.n_law_term .nil pass0 (pa_cons (pv 0) (pa_cons (pv 1) (pa_cons pe_int pa_nil)))) (pa_cons (pe_tup (pa_cons pe_str (pa_cons (pv 8) pa_nil))) (pa_cons (pe_tup (pa_cons pe_str (pa_cons (pv 8) (pa_cons (pv 8) pa_nil)))) (pa_cons (pv 8) pa_nil))))))
      (pss_cons (ps_set (i := 7) nd rfl (.inr rfl) (pe_call Gpick (hr.mono (by omega)) (by rfl) T.g_law_pick T.f_law_pick.kp T.n_law_pick .nil pass0 (pa_cons (pv 0) (pa_cons (pe_op op_cat (pv 4) (pe_lst (pa_cons (pe_tup (pa_cons pe_str pa_nil)) (pa_cons (pe_tup (pa_cons pe_str (pa_cons (pe_tup (pa_cons pe_str pa_nil)) pa_nil))) pa_nil)))) pa_nil))))
      (pss_cons (ps_set (i := 5) nd rfl (.inl rfl) (pe_call Glp (hr.mono (by omega)) (by rfl) T.g_law_put T.f_law_put.kp T.n_law_put .nil pass0 (pa_cons (pv 2) (pa_cons (pv 8) (pa_cons (pv 7) pa_nil)))))
      (pss_cons (ps_if (pt_not (pt_val (pe_call Gil (hr.mono (by omega)) (by rfl) T.g_law_is_like T.f_law_is_like.kp T.n_law_is_like .nil pass0 (pa_cons (pv 7) pa_nil)))) (pss_one ps_continue) pss_nil)
      (pss_cons (ps_set (i := 6) nd rfl (.inl rfl) (pe_told T (k := 9) (by rfl) TB ec Y.hR.1 Y.hR.2 (hr.mono (by omega)) (lamS_by (sc := defScope s__law_replaced_right) (by decide +kernel)) rfl (fun _ _ _ _ _ => rfl) (fun A2 outer2 s2 H2 E2 f2 c2 hr2 => pe_call Grep (hr2.mono (by omega)) (by rfl) T.greplaced T.freplaced.kp T.nreplaced .nil (passes_call (takes_of rfl rfl rfl rfl) (fun _ _ _ _ h => h)) (pa_cons (pv 2) (pa_cons (pv 8) (pa_cons (pv 7) pa_nil))))))
      (pss_one (ps_if (pt_cmpR (op_neF (room200 hr)) (pv 6) (pe_ifExp (pt_val (pe_call Gil (hr.mono (by omega)) (by rfl) T.g_law_is_like T.f_law_is_like.kp T.n_law_is_like .nil pass0 (pa_cons (pv 5) pa_nil))) (pv 5) pe_str) (nomark _)) (pss_one (ps_ret pe_bl)) pss_nil)))))))))
      (pss_one (ps_ret pe_bl))), ?_⟩
    refine ⟨4, rfl, by decide, by decide, for_range (fun i σ H' => Bt a H H' ∧ Dice H' a (m + 40 * i) ∧ Tabs Y.T H' ∧ ∃ y3 y4 y5 y6 y7 y8, σ = [some (.ref a), some (.ref b), some x, y3, y4, y5, y6, y7, y8]) ⟨.refl, hd, tt, none, none, none, none, none, none, rfl⟩ ?_ ?_⟩
    · rintro i σ G1 hi ⟨bt1, d1, t1, z3, z4, z5, z6, z7, z8, rfl⟩
      have hi : i < 4 := hi
      have dx1 := bt1.dx hd tm.fm dx
      have ri1 := bt1.rows hd ri nba
      have lp4 : (preD d).length ≤ 40 := pre_most 4 d tm.fm tm.dp
      refine ⟨_, rfl, _, rfl, x, d, rfl, dx1, tm.fm, tm.dp, by omega, fun p H2 ys s2 np ep dys => ?_⟩
      have d2 := d1.up s2
      have ri2 := ri1.up s2
      have ri2 := ri1.up s2
      have npa := d1.ne np
      refine ⟨_, rfl, _, rfl, a, b, 2, 2, rfl, rfl, by decide, a, b, m + 40 * i, zs, rfl, by decide, d2, by show m + 40 * i + 8 < 1000000; unfold cap at hm; omega, ri2, nba, gd, fun x2 e2 H3 bt3 d3 dx3 tm3 => ⟨by show 1 ≤ sizeLine; decide, fun l nl => ?_⟩⟩
      have d3 : Dice H3 a (m + 40 * i + 8) := d3
      have sl := same_put (o := .lst [x2]) nl
      have ep3 := sl _ _ (bt3 _ _ ep npa)
      have lys := dys.length
      have lb := bel_len d
      refine ⟨p, l, ys, [x2], rfl, rfl, ep3, upd_same, by rw [lys, lb]; exact Nat.le_of_lt (small1000 (by show (preD d).length + 1 ≤ 1000; omega)), fun q1 nq1 => ?_⟩
      have sq1 := same_put (o := .lst (ys ++ [x2])) nq1
      have b13 : Bt a G1 (upd (upd H3 l (.lst [x2])) q1 (.lst (ys ++ [x2]))) := (Bt.same s2).trans ((Bt.but bt3).trans (.same (sl.trans sq1)))
      have d4 := (d3.up sl).up sq1
      have t4 : Tabs Y.T (upd (upd H3 l (.lst [x2])) q1 (.lst (ys ++ [x2]))) := ((tabs_but (t1.ext s2) bt3 d2).ext sl).ext sq1
      have nq1a := (d3.up sl).ne nq1
      have all4 : DxAll K (upd (upd H3 l (.lst [x2])) q1 (.lst (ys ++ [x2]))) (ys ++ [x2]) (belD d ++ [e2]) :=
        DxAll.append (DxAll.ts (((Tups.but bt3 d2).trans (.of sl)).trans (.of sq1)) _ _ (pure_formedAll _ (formedAll_of (bel_formed d tm.fm))) dys) (.cons (dx3.up (sl.trans sq1)) .nil)
      have eq1 : (upd (upd H3 l (.lst [x2])) q1 (.lst (ys ++ [x2]))) q1 = some (.lst (ys ++ [x2])) := upd_same
      generalize upd (upd H3 l (.lst [x2])) q1 (.lst (ys ++ [x2])) = H4 at b13 d4 t4 all4 eq1 ⊢
      refine ⟨a, q1, m + 40 * i + 8, ys ++ [x2], rfl, d4, by unfold cap at hm ⊢; omega, .inl (.inl eq1), nq1a, by rw [List.length_append]; exact Nat.succ_pos _, by rw [List.length_append, lys, lb]; show (preD d).length + 1 < 1000000; omega, fun j v H5 bt5 d5 hv => ?_⟩
      obtain ⟨e, he, dv⟩ := DxAll.at all4 hv
      have te : Tm (zs.map Prod.snd) 4 e := by
        rcases List.mem_append.mp he with h | h
        · exact tm.part h
        · rw [List.mem_singleton.mp h]
          exact tm3.le (by decide)
      have b15 := b13.trans (.but bt5)
      have t5 := tabs_but t4 bt5 d4
      have dv5 := (Bt.but bt5).dx d4 te.fm dv
      clear all4 dv eq1
      -- some
      have ri5 := b15.rows d1 ri1 nba
      refine ⟨_, rfl, _, rfl, a, b, 3, 3, rfl, rfl, by decide, a, b, m + 40 * i + 8 + 1, zs, rfl, by decide, d5, by show m + 40 * i + 8 + 1 + 26 < 1000000; unfold cap at hm; omega, ri5, nba, gd, fun x3 e3 H6 bt6 d6 dx6 tm6 => ?_⟩
      have d6 : Dice H6 a (m + 40 * i + 8 + 1 + 26) := d6
      have t6 := tabs_but t5 bt6 d5
      have dv6 := (Bt.but bt6).dx d5 te.fm dv5
      have b16 := b15.trans (.but bt6)
      refine ⟨_, rfl, by show 2 ≤ sizeLine; decide, fun u1 n1 => ?_⟩
      have s7 := same_put (o := .tup [.str "g", v]) n1
      have e7 : (upd H6 u1 (.tup [.str "g", v])) u1 = some (.tup [.str "g", v]) := upd_same
      generalize upd H6 u1 (.tup [.str "g", v]) = H7 at s7 e7 ⊢
      refine ⟨_, rfl, _, rfl, by show 3 ≤ sizeLine; decide, fun u2 n2 => ?_⟩
      have s8 := same_put (o := .tup [.str "hh", v, v]) n2
      have e8 : (upd H7 u2 (.tup [.str "hh", v, v])) u2 = some (.tup [.str "hh", v, v]) := upd_same
      generalize upd H7 u2 (.tup [.str "hh", v, v]) = H8 at s8 e8 ⊢
      refine ⟨_, rfl, by show 4 ≤ sizeLine; decide, fun l2 n9 => ?_⟩
      have s9 := same_put (o := .lst [x3, .ref u1, .ref u2, v]) n9
      have e9 : (upd H8 l2 (.lst [x3, .ref u1, .ref u2, v])) l2 = some (.lst [x3, .ref u1, .ref u2, v]) := upd_same
      generalize upd H8 l2 (.lst [x3, .ref u1, .ref u2, v]) = H9 at s9 e9 ⊢
      refine ⟨_, rfl, _, rfl, by show 1 ≤ sizeLine; decide, fun u3 n10 => ?_⟩
      have s10 := same_put (o := .tup [.str "a"]) n10
      have e10 : (upd H9 u3 (.tup [.str "a"])) u3 = some (.tup [.str "a"]) := upd_same
      generalize upd H9 u3 (.tup [.str "a"]) = H10 at s10 e10 ⊢
      refine ⟨by show 1 ≤ sizeLine; decide, fun u4 n11 => ?_⟩
      have s11 := same_put (o := .tup [.str "a"]) n11
      have e11 : (upd H10 u4 (.tup [.str "a"])) u4 = some (.tup [.str "a"]) := upd_same
      generalize upd H10 u4 (.tup [.str "a"]) = H11 at s11 e11 ⊢
      refine ⟨by show 2 ≤ sizeLine; decide, fun u5 n12 => ?_⟩
      have s12 := same_put (o := .tup [.str "f", .ref u4]) n12
      have e12 : (upd H11 u5 (.tup [.str "f", .ref u4])) u5 = some (.tup [.str "f", .ref u4]) := upd_same
      generalize upd H11 u5 (.tup [.str "f", .ref u4]) = H12 at s12 e12 ⊢
      refine ⟨by show 2 ≤ sizeLine; decide, fun l3 n13 => ?_⟩
      have s13 := same_put (o := .lst [.ref u3, .ref u5]) n13
      have e13 : (upd H12 l3 (.lst [.ref u3, .ref u5])) l3 = some (.lst [.ref u3, .ref u5]) := upd_same
      generalize upd H12 l3 (.lst [.ref u3, .ref u5]) = H13 at s13 e13 ⊢
      have s1013 := s10.trans (s11.trans (s12.trans s13))
      refine ⟨l2, l3, _, _, rfl, rfl, s1013 _ _ e9, e13, by show 4 + 2 ≤ sizeLine; decide, fun q2 n14 => ?_⟩
      have s14 := same_put (o := .lst ([x3, .ref u1, .ref u2, v] ++ [.ref u3, .ref u5])) n14
      have e14 : (upd H13 q2 (.lst ([x3, .ref u1, .ref u2, v] ++ [.ref u3, .ref u5]))) q2 = some (.lst [x3, .ref u1, .ref u2, v, .ref u3, .ref u5]) := upd_same
      generalize upd H13 q2 (.lst ([x3, .ref u1, .ref u2, v] ++ [.ref u3, .ref u5])) = H14 at s14 e14 ⊢
      have s6 := s7.trans (s8.trans (s9.trans (s1013.trans s14)))
      have all : DxAll K H14 [x3, .ref u1, .ref u2, v, .ref u3, .ref u5] [e3, .tuple [.str "g", e], .tuple [.str "hh", e, e], e, .tuple [.str "a"], .tuple [.str "f", .tuple [.str "a"]]] := by
        have w14 := dv6.up s6
        refine .cons (dx6.up s6) (.cons (.tup ((s8.trans (s9.trans (s1013.trans s14))) _ _ e7) (.cons (.str _) (.cons w14 .nil))) (.cons (.tup ((s9.trans (s1013.trans s14)) _ _ e8) (.cons (.str _) (.cons w14 (.cons w14 .nil)))) (.cons w14 (.cons (.tup ((s11.trans (s12.trans (s13.trans s14))) _ _ e10) (.cons (.str _) .nil)) (.cons (.tup ((s13.trans s14) _ _ e12) (.cons (.str _) (.cons (.tup ((s12.trans (s13.trans s14)) _ _ e11) (.cons (.str _) .nil)) .nil))) .nil)))))
      have nq2 : q2 ≠ a := (d6.up (s7.trans (s8.trans (s9.trans s1013)))).ne n14
      have d14 := d6.up s6
      have t14 := t6.ext s6
      have b14 := b16.trans (.same s6)
      have dv14 := dv6.up s6
      clear s7 s8 s9 s10 s11 s12 s13 s14 e7 e8 e9 e10 e11 e12 e13 s1013 n1 n2 n9 n10 n11 n12 n13
      refine ⟨a, q2, m + 40 * i + 8 + 1 + 26, [x3, .ref u1, .ref u2, v, .ref u3, .ref u5], rfl, d14, by unfold cap at hm ⊢; omega, .inl (.inl e14), nq2, by show 0 < 6; decide, by show 6 < 1000000; decide, fun j2 nv H15 bt15 d15 hv2 => ?_⟩
      obtain ⟨c, hc, dc⟩ := DxAll.at all hv2
      have nw := nw_all te tm6 c hc
      have b15 := b14.trans (.but bt15)
      have t15 := tabs_but t14 bt15 d14
      have dv15 := (Bt.but bt15).dx d14 te.fm dv14
      have dc15 := (Bt.but bt15).dx d14 nw.fm dc
      have dx15 := b15.dx d1 tm.fm dx1
      clear all dc
      -- due
      have le4 : (preD e).length ≤ 40 := pre_most 4 e te.fm te.dp
      have lput : (preD (putD e c d)).length ≤ 13 * (preD d).length := put_pre (by decide) nw.ln d tm.fm
      have fput := put_formed e c nw.fm d tm.fm
      have dput : (putD e c d).depth ≤ 9 := by
        have := put_depth (o := e) (c := c) d
        have := tm.dp
        have := nw.dp
        omega
      have rput : ∀ r, r ∈ rowsD (putD e c d) → r ∈ zs.map Prod.snd ++ extra := fun r hr => by
        rcases put_rows d tm.fm hr with h | h
        · exact List.mem_append_left _ (tm.rw r h)
        · exact nw.rw r h
      have few : (zs.map Prod.snd ++ extra).length < 64 := by
        have := gd.few
        rw [List.length_append]
        show (zs.map Prod.snd).length + 4 < 64
        omega
      have cput : Kx.cnt (rowsD (putD e c d)) < 64 := Nat.lt_of_le_of_lt (cnt_sub rput) few
      have cnw : Kx.cnt (rowsD c) < 64 := Nat.lt_of_le_of_lt (cnt_sub nw.rw) few
      have lnw := nw.ln
      refine ⟨_, rfl, _, rfl, _, rfl, x, v, nv, d, e, c, rfl, dx15, dv15, dc15, tm.fm, te.fm, nw.fm, tm.dp, fun due H16 s16 ddue => ?_⟩
      have dc16 := dc15.up s16
      refine ⟨_, rfl, nv, c, rfl, dc16, nw.fm, by have := nw.dp; omega, by omega, cnw, fun H17 s17 => ?_⟩
      have s1517 := s16.trans s17
      have b17 := b15.trans (.same s1517)
      have d17 := d15.up s1517
      have t17 := t15.ext s1517
      have dx17 := dx15.up s1517
      have dv17 := dv15.up s1517
      have dc17 := dc16.up s17
      have ddue17 := ddue.up s17
      by_cases tc : termD c = true
      · rw [tc]
        refine ⟨_, rfl, iteF ?_⟩
        refine ⟨t17, fun H18 xn t18 => ?_⟩
        have b18 := b17.trans (.ext xn)
        have d18 := dice_ext d17 xn
        have pd := plain_formed d tm.fm
        have pe := plain_formed e te.fm
        have pc := plain_formed c nw.fm
        have pp := plain_formed _ fput
        have lt : (PyData.str "term").canLay0 = true := (plain_name (d := .str "term") (by decide +kernel)).lay
        have ddue18 := (Bt.ext xn).dx d17 fput ddue17
        refine ⟨_, rfl, _, rfl, _, rfl, x, v, nv, d, e, c, rfl, ⟨(Bt.ext xn).dx d17 tm.fm dx17, pd.short, by rw [sz_pre d tm.fm]; omega⟩, ⟨(Bt.ext xn).dx d17 te.fm dv17, pe.short, by rw [sz_pre e te.fm]; omega⟩, ⟨(Bt.ext xn).dx d17 nw.fm dc17, pc.short, by rw [sz_pre c nw.fm]; omega⟩,
          tm.term gd, te.term gd, tc, by omega, pp.short, by rw [sz_pre _ fput]; omega, fun tp r H19 s19 dr => ?_, fun tp H19 s19 => ⟨true, T.eInvalidTerm, fun _ => ?_, fun z => nomatch z⟩⟩
        · refine ⟨_, rfl, _, rfl, due, putD e c d, rfl, (Bt.same s19).dx d18 fput ddue18, fput, dput, by omega, cput, fun H20 s20 => ?_⟩
          rw [tp]
          refine ⟨_, rfl, iteT ⟨_, rfl, putD e c d, putD e c d, Dx.dp pp.hd (dr.up s20), Dx.dp pp.hd (((Bt.same s19).dx d18 fput ddue18).up s20), pp.lay, pp.lay, by omega, _, rfl, ?_⟩⟩
          rw [SeqAt.eqv_refl _ pp.lay]
          have s1820 := s19.trans s20
          exact iteF ⟨bt1.trans (b18.trans (.same s1820)), (d18.up s1820).le (by omega), t18.ext s1820, _, _, _, _, _, _, rfl⟩
        · refine ⟨_, rfl, _, rfl, due, putD e c d, rfl, (Bt.same s19).dx d18 fput ddue18, fput, dput, by omega, cput, fun H20 s20 => ?_⟩
          rw [tp]
          refine ⟨_, rfl, iteF ⟨.str "term", .str "term", Dx.dp rfl (.str _), Dx.dp rfl (.str _), lt, lt, by decide, _, rfl, ?_⟩⟩
          rw [SeqAt.eqv_refl _ lt]
          have s1820 := s19.trans s20
          exact iteF ⟨bt1.trans (b18.trans (.same s1820)), (d18.up s1820).le (by omega), t18.ext s1820, _, _, _, _, _, _, rfl⟩
      · have tc : termD c = false := by simpa using tc
        rw [tc]
        exact ⟨_, rfl, iteT ⟨bt1.trans b17, d17.le (by omega), t17, _, _, _, _, _, _, rfl⟩⟩
    · rintro _ G1 ⟨bt1, d1, t1, z3, z4, z5, z6, z7, z8, rfl⟩
      exact q G1 bt1 d1 t1
end
end K03
/-! list(zip(xs, ys)), two lists. -/
namespace Kx
open PySem PySem.Calls PySem.W PyProof.Rows PyProof.V PySem.Spec
theorem nolen_zip : typeLookup (.type "zip") "__len__" = pure none := by rw [typeLookup_type, builtinLookup_eq_fast]; kernel_rfl
theorem nohint_zip : typeLookup (.type "zip") "__length_hint__" = pure none := by rw [typeLookup_type, builtinLookup_eq_fast]; kernel_rfl
/-- a zip of two lists, i items drawn; S: where they are gathered -/
structure ZlSt (h : Heap) (S z TI TO i1 i2 l1 l2 : Addr) (xs ys : Array Value) (i : Nat) : Prop where
  ti : IsPair h TI (.ref i1) (.ref i2)
  it1 : h.IsListIter i1 l1 i
  it2 : h.IsListIter i2 l2 i
  L1 : h.IsList l1 xs
  L2 : h.IsList l2 ys
  st : (IsZip h z TI TO .none ∧ ∃ a b, IsPair h TO a b) ∨ (∃ T f oT, IsZipHeld h z TI TO T f ∧ h.get? T = some oT ∧ T ≠ S ∧ T ≠ z ∧ T ≠ i1 ∧ T ≠ i2)
structure ZlG (xs ys : Array Value) (lo : Addr) (h : Heap) (as : List Addr) : Prop where
  rise : as.Pairwise (· < ·)
  above : ∀ a ∈ as, lo ≤ a
  pairs : ∀ (j : Nat) (a : Addr), as[j]? = some a → ∃ x y, xs[j]? = some x ∧ ys[j]? = some y ∧ IsPair h a x y
theorem ZlG.there {xs ys : Array Value} {lo : Addr} {h : Heap} {as : List Addr} (g : ZlG xs ys lo h as) {a : Addr} (ha : a ∈ as) : a < h.objs.size := by
  obtain ⟨j, hj⟩ := List.mem_iff_getElem?.mp ha
  obtain ⟨x, y, _, _, e⟩ := g.pairs j a hj
  exact Heap.lt_size e
section
variable {prog : Program} {w : World} {A : Around} {E : Value → Shared → Prop} {s : Shared} {S z TI TO i1 i2 l1 l2 : Addr} {xs ys : Array Value} {i : Nat}
theorem ZlSt.keep {h h' : Heap} (Z : ZlSt h S z TI TO i1 i2 l1 l2 xs ys i) (up : ∀ b o, b ≠ S → h.get? b = some o → h'.get? b = some o) (nz : z ≠ S) (nTI : TI ≠ S) (nTO : TO ≠ S) (n1 : i1 ≠ S) (n2 : i2 ≠ S) (m1 : l1 ≠ S) (m2 : l2 ≠ S) : ZlSt h' S z TI TO i1 i2 l1 l2 xs ys i := by
  refine ⟨up _ _ nTI Z.ti, Z.it1.at fun o e => up _ _ n1 e, Z.it2.at fun o e => up _ _ n2 e, let ⟨o, e, r⟩ := Z.L1; ⟨o, up _ _ m1 e, r⟩, let ⟨o, e, r⟩ := Z.L2; ⟨o, up _ _ m2 e, r⟩, ?_⟩
  rcases Z.st with ⟨a, x, y, b⟩ | ⟨T, f, oT, a, b, c, cr⟩
  · exact .inl ⟨up _ _ nz a, x, y, up _ _ nTO b⟩
  · exact .inr ⟨T, f, oT, up _ _ nz a, up _ _ c b, c, cr⟩
theorem zl_item {x y : Value} {Q : Option Value → Shared → Prop} (D : ZipApart z TI TO i1 i2 l1 l2) (Z : ZlSt s.heap S z TI TO i1 i2 l1 l2 xs ys i) (hS : S < s.heap.objs.size) (hx : xs[i]? = some x) (hy : ys[i]? = some y)
    (hQ : ∀ h', ZlSt h' S z TI TO i1 i2 l1 l2 xs ys (i + 1) → IsPair h' s.heap.objs.size x y → h'.objs.size = s.heap.objs.size + 1 →
      (∀ c o, c ≠ z → c ≠ TO → c ≠ i1 → c ≠ i2 → s.heap.get? c = some o → h'.get? c = some o) → Q (some (.ref s.heap.objs.size)) { s with heap := h' }) :
    wpAny (model prog w) A (pyNext (.ref z)) Q E s := by
  rcases Z.st with ⟨hz, a, b, hTO⟩ | ⟨T, f, oT, hz, hT, nT, nTz, nT1, nT2⟩
  · refine wpAny_pyNext_zip_item D hz Z.ti hTO Z.it1 Z.it2 Z.L1 Z.L2 hx hy fun h' a1 a2 a3 a4 a5 a6 a7 => hQ h' ⟨a7 _ _ D.TIz D.TITO D.TIi1 D.TIi2 Z.ti, a3, a4, ?_, ?_, .inr ⟨s.heap.objs.size, false, _, a1, a5, Nat.ne_of_gt hS, Nat.ne_of_gt (Heap.lt_size hz), Nat.ne_of_gt (let ⟨_, e, _⟩ := Z.it1; Heap.lt_size e), Nat.ne_of_gt (let ⟨_, e, _⟩ := Z.it2; Heap.lt_size e)⟩⟩ a5 a6 a7
    · obtain ⟨o, e, r⟩ := Z.L1
      exact ⟨o, a7 _ _ D.l1z D.l1TO D.l1i1 D.l1i2 e, r⟩
    · obtain ⟨o, e, r⟩ := Z.L2
      exact ⟨o, a7 _ _ D.l2z D.l2TO D.l2i1 D.l2i2 e, r⟩
  · refine wpAny_pyNext_zip_item_held D hz hT Z.ti Z.it1 Z.it2 Z.L1 Z.L2 hx hy fun h' a1 a3 a4 a5 a6 a7 => hQ h' ⟨a7 _ _ D.TIz D.TIi1 D.TIi2 Z.ti, a3, a4, ?_, ?_, .inr ⟨T, true, oT, a1, a7 _ _ nTz nT1 nT2 hT, nT, nTz, nT1, nT2⟩⟩ a5 a6 (fun c o c1 _ c3 c4 e => a7 c o c1 c3 c4 e)
    · obtain ⟨o, e, r⟩ := Z.L1
      exact ⟨o, a7 _ _ D.l1z D.l1i1 D.l1i2 e, r⟩
    · obtain ⟨o, e, r⟩ := Z.L2
      exact ⟨o, a7 _ _ D.l2z D.l2i1 D.l2i2 e, r⟩
theorem zl_done {Q : Option Value → Shared → Prop} (hh : A.handled = none) (D : ZipApart z TI TO i1 i2 l1 l2) (Z : ZlSt s.heap S z TI TO i1 i2 l1 l2 xs ys i) (he : xs[i]? = none ∨ ys[i]? = none)
    (hQ : ∀ h', (∀ c o, c ≠ z → c ≠ TO → c ≠ i1 → c ≠ i2 → s.heap.get? c = some o → h'.get? c = some o) → Q none { s with heap := h' }) : wpAny (model prog w) A (pyNext (.ref z)) Q E s := by
  rcases Z.st with ⟨hz, a, b, hTO⟩ | ⟨T, f, oT, hz, hT, nT, nTz, nT1, nT2⟩
  · exact wpAny_pyNext_zip_end hh D hz Z.ti hTO Z.it1 Z.it2 Z.L1 Z.L2 he hQ
  · exact wpAny_pyNext_zip_end_held hh D hz hT Z.ti Z.it1 Z.it2 Z.L1 Z.L2 he fun h' k => hQ h' fun c o c1 _ c3 c4 e => k c o c1 c3 c4 e
end
section
variable {prog : Program} {w : World} {A : Around} {s : Shared} {R : Result → Shared → Prop} {S z TI TO i1 i2 l1 l2 : Addr} {xs ys : Array Value} {n : Nat}
theorem zl_loop {lo : Addr} (hh : A.handled = none) (D : ZipApart z TI TO i1 i2 l1 l2) (hx : xs.size = n) (hy : ys.size = n) (oS : S < lo) (oz : z < lo) (oTO : TO < lo) (o1 : i1 < lo) (o2 : i2 < lo)
    (nz : z ≠ S) (nTI : TI ≠ S) (nTO : TO ≠ S) (n1 : i1 ≠ S) (n2 : i2 ≠ S) (m1 : l1 ≠ S) (m2 : l2 ≠ S) (hn : n ≤ sizeLine) (res : Value) {h₁ : Heap}
    (hR : ∀ h' tk acc c as, (∀ b o, b ≠ S → b ≠ z → b ≠ TO → b ≠ i1 → b ≠ i2 → h₁.get? b = some o → h'.get? b = some o) → h'.get? S = some { cls := .type "list", dict := none, data := .seq acc c, slots := #[] } → as.length = n → ZlG xs ys lo h' as →
      acc.toList = as.map Value.ref → R (.ok (.ret res)) { s with heap := h', toks := tk }) :
    ∀ (k i : Nat) (h : Heap) (tk c : Nat) (acc : Array Value) (as : List Addr), n - i = k → i ≤ n → ZlSt h S z TI TO i1 i2 l1 l2 xs ys i → (∀ b o, b ≠ S → b ≠ z → b ≠ TO → b ≠ i1 → b ≠ i2 → h₁.get? b = some o → h.get? b = some o) →
      h.get? S = some { cls := .type "list", dict := none, data := .seq acc c, slots := #[] } → acc.toList = as.map Value.ref → as.length = i → ZlG xs ys lo h as → lo ≤ h.objs.size →
      codeAny (model prog w) A (.builtin "list.extend.loop" ⟨[.ref S, .ref z, res], []⟩) R { s with heap := h, toks := tk } := by
  intro k
  induction k with
  | zero =>
    intro i h tk c acc as hk hi hst hkeep hS hacc hal hG hIs
    have hin : i = n := by omega
    refine codeAny_builtin PySem.F.entry_extend_loop ?_
    rw [Around.under_plainId PySem.F.plain_extend_loop _]
    show wpAny _ A.in1 (pyNext (.ref z) >>= _) _ _ _
    refine wpAny_bind (zl_done (s := { s with heap := h, toks := tk }) (A := A.in1) hh D hst (.inl (Array.getElem?_eq_none (by omega))) fun h' he => ?_)
    refine wpAny_pure (hR h' tk acc c as (fun b o h1 h2 h3 h4 h5 e => he b o h2 h3 h4 h5 (hkeep b o h1 h2 h3 h4 h5 e)) (he S _ nz.symm nTO.symm n1.symm n2.symm hS) (by omega) ⟨hG.rise, hG.above, fun j a hj => ?_⟩ hacc)
    obtain ⟨x, y, e1, e2, e3⟩ := hG.pairs j a hj
    have ab := hG.above a (List.mem_of_getElem? hj)
    exact ⟨x, y, e1, e2, he a _ (Nat.ne_of_gt (Nat.lt_of_lt_of_le oz ab)) (Nat.ne_of_gt (Nat.lt_of_lt_of_le oTO ab)) (Nat.ne_of_gt (Nat.lt_of_lt_of_le o1 ab)) (Nat.ne_of_gt (Nat.lt_of_lt_of_le o2 ab)) e3⟩
  | succ k ih =>
    intro i h tk c acc as hk hi hst hkeep hS hacc hal hG hIs
    have hlt : i < n := by omega
    have hsz : acc.size = i := by rw [← Array.length_toList, hacc, List.length_map, hal]
    refine codeAny_builtin PySem.F.entry_extend_loop ?_
    rw [Around.under_plainId PySem.F.plain_extend_loop _]
    show wpAny _ A.in1 (pyNext (.ref z) >>= _) _ _ _
    have ex : xs[i]? = some xs[i] := Array.getElem?_eq_getElem (by omega)
    have ey : ys[i]? = some ys[i] := Array.getElem?_eq_getElem (by omega)
    refine wpAny_bind (zl_item (s := { s with heap := h, toks := tk }) D hst (Heap.lt_size hS) ex ey fun h' hst' ht hz hkp => ?_)
    dsimp only at ht hz hkp ⊢
    have hS' := hkp S _ nz.symm nTO.symm n1.symm n2.symm hS
    have up : ∀ b o, b ≠ S → h'.get? b = some o → (h'.update S (Obj.mapSeq (·.push (Value.ref h.objs.size)))).get? b = some o := fun b o hb e => (Heap.get?_update_other _ _ (Ne.symm hb)).trans e
    have hSl : S < h.objs.size := Heap.lt_size hS
    show wpAny _ A.in1 (updateSeq S (·.push (Value.ref h.objs.size)) >>= _) _ _ _
    refine wpAny_bind ?_
    refine wpAny_updateSeq hS' rfl (wpAny_pure ⟨plainId_quiet PySem.F.plain_extend_loop _, ih (i + 1) _ tk _ (acc.push (Value.ref h.objs.size)) (as ++ [h.objs.size]) (by omega) hlt (hst'.keep up nz nTI nTO n1 n2 m1 m2)
      (fun b o h1 h2 h3 h4 h5 e => up b o h1 (hkp b o h2 h3 h4 h5 (hkeep b o h1 h2 h3 h4 h5 e))) (Heap.get?_update_self _ hS' rfl) (by rw [Array.toList_push, hacc, List.map_append]; rfl) (by rw [List.length_append, hal]; rfl) ⟨?_, ?_, ?_⟩ ?_⟩) (by rw [hsz]; omega) (by show (acc.push (Value.ref h.objs.size)).size ≤ sizeLine + 1; rw [Array.size_push, hsz]; omega)
    · refine List.pairwise_append.mpr ⟨hG.rise, List.pairwise_singleton _ _, fun a ha b hb => ?_⟩
      rw [List.mem_singleton.mp hb]
      exact hG.there ha
    · intro a ha
      rcases List.mem_append.mp ha with ha | ha
      · exact hG.above a ha
      · rw [List.mem_singleton.mp ha]; exact hIs
    · intro j b hj
      rcases Nat.lt_trichotomy j as.length with h1 | h1 | h1
      · rw [List.getElem?_append_left h1] at hj
        obtain ⟨x, y, e1, e2, e3⟩ := hG.pairs j b hj
        have ab := hG.above b (List.mem_of_getElem? hj)
        exact ⟨x, y, e1, e2, up b _ (Nat.ne_of_gt (Nat.lt_of_lt_of_le oS ab)) (hkp b _ (Nat.ne_of_gt (Nat.lt_of_lt_of_le oz ab)) (Nat.ne_of_gt (Nat.lt_of_lt_of_le oTO ab)) (Nat.ne_of_gt (Nat.lt_of_lt_of_le o1 ab)) (Nat.ne_of_gt (Nat.lt_of_lt_of_le o2 ab)) e3)⟩
      · subst h1
        have hb : h.objs.size = b := by simpa using hj
        subst hb
        subst hal
        exact ⟨_, _, ex, ey, up _ _ (Nat.ne_of_gt hSl) ht⟩
      · have hnone : (as ++ [h.objs.size])[j]? = none := List.getElem?_eq_none (by rw [List.length_append, List.length_singleton]; omega)
        rw [hnone] at hj; cases hj
    · have e : (h'.update S (Obj.mapSeq (·.push (Value.ref h.objs.size)))).get? h.objs.size = _ := up _ _ (Nat.ne_of_gt hSl) ht
      exact Nat.le_of_lt (Nat.lt_of_le_of_lt hIs (Heap.lt_size e))
end
section
variable {prog : Program} {w : World} {A : Around} {E : Value → Shared → Prop} {s : Shared} {S z TI TO i1 i2 l1 l2 : Addr} {xs ys : Array Value} {n : Nat}
theorem hint_zip {Q : Bool → Shared → Prop} (hT : s.TypeIs (.ref z) "zip") (h : Q true s) : wpAny (model prog w) A (Builtin.List.listLengthHint (.ref z)) Q E s := by
  unfold Builtin.List.listLengthHint
  refine wpAny_bind (wpAny_specialOf hT nolen_zip ?_)
  show wpAny _ A (specialOf (Value.ref z) (Str.ofString "__length_hint__") >>= _) _ _ _
  refine wpAny_bind (wpAny_specialOf hT nohint_zip ?_)
  exact wpAny_pure h
theorem zl_extend {R : Result → Shared → Prop} (hh : A.handled = none) (D : ZipApart z TI TO i1 i2 l1 l2) (hx : xs.size = n) (hy : ys.size = n)
    (nz : z ≠ S) (nTI : TI ≠ S) (nTO : TO ≠ S) (n1 : i1 ≠ S) (n2 : i2 ≠ S) (m1 : l1 ≠ S) (m2 : l2 ≠ S) (hn : n ≤ sizeLine) (res : Value) (c₀ : Nat) (hz : IsZip s.heap z TI TO .none) (hTO : IsPair s.heap TO .none .none)
    (Z : ZlSt s.heap S z TI TO i1 i2 l1 l2 xs ys 0) (hS : s.heap.get? S = some { cls := .type "list", data := .seq #[] c₀ })
    (hR : ∀ h' tk acc c as, (∀ b o, b ≠ S → b ≠ z → b ≠ TO → b ≠ i1 → b ≠ i2 → s.heap.get? b = some o → h'.get? b = some o) → h'.get? S = some { cls := .type "list", dict := none, data := .seq acc c, slots := #[] } → as.length = n → ZlG xs ys s.heap.objs.size h' as →
      acc.toList = as.map Value.ref → R (.ok (.ret res)) { s with heap := h', toks := tk }) :
    wpAny (model prog w) A.in1 (Builtin.List.listExtendWith (.ref S) (.ref z) res)
      (fun fin s' => match fin with | .done f => R (.ok f) s' | .again c' => c'.quiet = true ∧ codeAny (model prog w) A c' R s') (fun e s' => R (.error e) s') s := by
  have hT : s.TypeIs (.ref z) "zip" := ⟨_, hz, rfl⟩
  have key : ∀ (h : Heap) (c₁ tk : Nat), (∀ b o, b ≠ S → s.heap.get? b = some o → h.get? b = some o) → s.heap.objs.size ≤ h.objs.size →
      h.get? S = some { cls := .type "list", data := .seq #[] c₁ } → codeAny (model prog w) A (.builtin "list.extend.loop" ⟨[.ref S, .ref z, res], []⟩) R { s with heap := h, toks := tk } := by
    intro h c₁ tk hk hsz hS₁
    exact zl_loop (s := s) (h₁ := s.heap) hh D hx hy (Heap.lt_size hS) (Heap.lt_size hz) (Heap.lt_size hTO) (let ⟨_, e, _⟩ := Z.it1; Heap.lt_size e) (let ⟨_, e, _⟩ := Z.it2; Heap.lt_size e) nz nTI nTO n1 n2 m1 m2 hn res hR
      n 0 h tk c₁ #[] [] (Nat.sub_zero _) (Nat.zero_le _) (Z.keep hk nz nTI nTO n1 n2 m1 m2) (fun b o hb _ _ _ _ e => hk b o hb e) hS₁ rfl rfl
      ⟨List.Pairwise.nil, (fun _ ha => nomatch ha), (fun j a hj => by simp at hj)⟩ hsz
  unfold Builtin.List.listExtendWith
  refine wpAny_bind (wpAny_typeOf (T := "zip") hT ?_)
  have h1 : Builtin.List.listSameRef (.ref S) (.ref z) = false := by simp [Builtin.List.listSameRef, nz.symm]
  have h2 : (Value.type "zip" == Value.type "list") = false := by decide
  have h3 : (Value.type "zip" == Value.type "tuple") = false := by decide
  simp only [h1, h2, h3, Bool.or_false, Bool.false_eq_true, if_false]
  refine wpAny_bind (wpAny_pyIter_zip hz ?_)
  refine wpAny_bind (wpAny_holding (hint_zip hT ?_))
  refine wpAny_ite_split (fun _ => ?_) (fun _ => wpAny_pure ⟨plainId_quiet PySem.F.plain_extend_loop _, key _ c₀ _ (fun b o _ e => e) (Nat.le_refl _) hS⟩)
  refine wpAny_bind (wpAny_rule ?_)
  refine wpAny_bind ?_
  show wpAny _ _ (updateSeq S (·.push .none) >>= fun _ => updateSeq S (·.pop)) _ _ _
  refine wpAny_bind (wpAny_updateSeq hS rfl ?_)
  have hS₂ := Heap.get?_update_self (Obj.mapSeq (·.push Value.none)) hS rfl
  refine wpAny_updateSeq (hz := by seq_fits) hS₂ rfl ?_
  have hS₃ := Heap.get?_update_self (Obj.mapSeq (·.pop)) hS₂ rfl
  refine wpAny_pure ⟨plainId_quiet PySem.F.plain_extend_loop _, key _ _ _ (fun b o hb e => ?_) ?_ hS₃⟩
  · exact (Heap.get?_update_other _ _ (Ne.symm hb)).trans ((Heap.get?_update_other _ _ (Ne.symm hb)).trans e)
  · simp
theorem ZlG.low {xs ys : Array Value} {lo lo' : Addr} {h : Heap} {as : List Addr} (g : ZlG xs ys lo h as) (hl : lo' ≤ lo) : ZlG xs ys lo' h as := ⟨g.rise, fun a ha => Nat.le_trans hl (g.above a ha), g.pairs⟩
theorem zl_call {Q : Value → Shared → Prop} (hh : A.handled = none) (D : ZipApart z TI TO i1 i2 l1 l2) (hx : xs.size = n) (hy : ys.size = n) (hn : n ≤ sizeLine) (hz : IsZip s.heap z TI TO .none) (hTI : IsPair s.heap TI (.ref i1) (.ref i2)) (hTO : IsPair s.heap TO .none .none)
    (h1 : s.heap.IsListIter i1 l1 0) (h2 : s.heap.IsListIter i2 l2 0) (hl1 : s.heap.IsList l1 xs) (hl2 : s.heap.IsList l2 ys)
    (hQ : ∀ h' tk acc c as, (∀ b o, b ≠ z → b ≠ TO → b ≠ i1 → b ≠ i2 → s.heap.get? b = some o → h'.get? b = some o) → h'.get? s.heap.objs.size = some { cls := .type "list", dict := none, data := .seq acc c, slots := #[] } → as.length = n → ZlG xs ys (s.heap.objs.size + 1) h' as →
      acc.toList = as.map Value.ref → Q (.ref s.heap.objs.size) { s with heap := h', toks := tk }) :
    wpAny (model prog w) A (call (.type "list") [.ref z]) Q E s := by
  refine callType_codes (Q₁ := fun obj s₁ => obj = .ref s.heap.objs.size ∧ s₁ = { s with heap := s.heap.push { cls := .type "list", data := .seq #[] } }) PySem.F.called_list (PySem.F.typeCall_list_1 _) PySem.F.entry_list_init
    (code_list_new _ ⟨rfl, rfl⟩) fun obj s₁ h₁ => ?_
  obtain ⟨rfl, rfl⟩ := h₁
  have hS : (s.heap.push { cls := .type "list", data := .seq #[] }).get? s.heap.objs.size = some { cls := .type "list", data := .seq #[] } := Heap.get?_push_size _ rfl
  have ne : ∀ {b o}, s.heap.get? b = some o → b ≠ s.heap.objs.size := fun e => Nat.ne_of_lt (Heap.lt_size e)
  have nz := ne hz
  have nTI := ne hTI
  have nTO := ne hTO
  obtain ⟨o1, e1, r1⟩ := h1
  obtain ⟨o2, e2, r2⟩ := h2
  obtain ⟨o3, e3, r3⟩ := hl1
  obtain ⟨o4, e4, r4⟩ := hl2
  refine ⟨⟨_, hS, rfl⟩, PySem.F.args_list_init_2 _ _, ?_⟩
  generalize hSa : s.heap.objs.size = S at hS hQ nz nTI nTO
  have m1 : i1 ≠ S := by rw [← hSa]; exact ne e1
  have m2 : i2 ≠ S := by rw [← hSa]; exact ne e2
  have m3 : l1 ≠ S := by rw [← hSa]; exact ne e3
  have m4 : l2 ≠ S := by rw [← hSa]; exact ne e4
  have sz : (s.heap.push { cls := .type "list", data := .seq #[] }).objs.size = S + 1 := by rw [Heap.size_push, hSa]
  have up : ∀ {b o}, s.heap.get? b = some o → (s.heap.push { cls := .type "list", data := .seq #[] }).get? b = some o := fun e => Heap.get?_push_of_some _ e
  generalize s.heap.push { cls := .type "list", data := .seq #[] } = G at hS sz up ⊢
  show wpAny _ _ (do let old ← Builtin.List.listItems (.ref S); Builtin.List.listUpdate (.ref S) (fun _ => #[]); letGo old.toList.reverse; Builtin.List.listExtendWith (.ref S) (.ref z) .none) _ _ _
  refine wpAny_bind ?_
  unfold Builtin.List.listItems
  refine wpAny_bind (wpAny_seqItems hS rfl (wpAny_pure ?_))
  show wpAny _ _ (updateSeq S (fun _ => #[]) >>= fun _ => letGo (#[] : Array Value).toList.reverse >>= fun _ => Builtin.List.listExtendWith (.ref S) (.ref z) .none) _ _ _
  refine wpAny_bind (wpAny_updateSeq hS rfl ?_)
  have hS₂ := Heap.get?_update_self (Obj.mapSeq (fun _ => (#[] : Array Value))) hS rfl
  have oth : ∀ b o, b ≠ S → s.heap.get? b = some o → (G.update S (Obj.mapSeq (fun _ => (#[] : Array Value)))).get? b = some o :=
    fun b o hb e => (Heap.get?_update_other _ _ (Ne.symm hb)).trans (up e)
  refine wpAny_bind (wpAny_letGo ?_)
  have sz2 : (G.update S (Obj.mapSeq (fun _ => (#[] : Array Value)))).objs.size = S + 1 := by rw [← sz]; simp
  refine zl_extend (A := A.in1) hh D hx hy nz nTI nTO m1 m2 m3 m4 hn .none _ (oth _ _ nz hz) (oth _ _ nTO hTO) ⟨oth _ _ nTI hTI, ⟨o1, oth _ _ m1 e1, r1⟩, ⟨o2, oth _ _ m2 e2, r2⟩, ⟨o3, oth _ _ m3 e3, r3⟩, ⟨o4, oth _ _ m4 e4, r4⟩, .inl ⟨oth _ _ nz hz, _, _, oth _ _ nTO hTO⟩⟩ hS₂ (fun h' tk acc c as hk hS' hl hG hacc => ?_)
  refine ⟨rfl, hQ h' tk acc c as (fun b o b1 b2 b3 b4 e => ?_) hS' hl (hG.low (Nat.le_of_eq sz2.symm)) hacc⟩
  have nb : b ≠ S := by rw [← hSa]; exact ne e
  exact hk b o nb b1 b2 b3 b4 (oth b o nb e)
end
end Kx
/-! list(zip(xs, ys)) as a rule; many new objects at once. -/
namespace Kx
open PySem PySem.Spec PyProof.Rows L2
def updL (H : Hp) : List (Addr × HO) → Hp
  | [] => H
  | p :: l => upd (updL H l) p.1 p.2
theorem updL_out {H : Hp} {a : Addr} : ∀ {l : List (Addr × HO)}, a ∉ l.map Prod.fst → updL H l a = H a
  | [], _ => rfl
  | p :: l, h => by
    rw [List.map_cons, List.mem_cons, not_or] at h
    rw [updL, upd_ne h.1]
    exact updL_out h.2
theorem updL_at {H : Hp} {a : Addr} {o : HO} : ∀ {l : List (Addr × HO)}, (l.map Prod.fst).Nodup → (a, o) ∈ l → updL H l a = some o
  | [], _, h => by cases h
  | p :: l, n, h => by
    rw [List.map_cons, List.nodup_cons] at n
    rcases List.mem_cons.mp h with e | h
    · subst e
      exact upd_same
    · have : a ≠ p.1 := fun e => n.1 (by rw [← e]; exact List.mem_map.mpr ⟨_, h, rfl⟩)
      rw [updL, upd_ne this]
      exact updL_at n.2 h
theorem laidL {X : Cx} {pins : List (Addr × Obj)} {σ : L2.St} {H : Hp} {s : Shared} (I : Inv X pins σ H s) : ∀ (l : List (Addr × HO)), (l.map Prod.fst).Nodup → ∀ (h' : Heap) (t' : Nat), (∀ b u, s.heap.get? b = some u → h'.get? b = some u) →
    (∀ p ∈ l, s.heap.objs.size ≤ p.1 ∧ ∀ (G : Heap) (H' : Hp), G.get? p.1 = h'.get? p.1 → ObjOk X.prog X.w H' G p.1 p.2) → Inv X pins σ (updL H l) { s with heap := h', toks := t' }
  | [], _, h', t', k, _ => I.kept k
  | p :: l, n, h', t', k, ho => by
    rw [List.map_cons, List.nodup_cons] at n
    obtain ⟨hp, op⟩ := ho p List.mem_cons_self
    obtain ⟨G, g1, g2⟩ := restrict h' fun b => decide (b ≠ p.1)
    have gk : ∀ b, b ≠ p.1 → G.get? b = h'.get? b := fun b hb => g1 b (decide_eq_true hb)
    have ga : G.get? p.1 = none := g2 p.1 (decide_eq_false fun z => z rfl)
    have I1 := laidL I l n.2 G t' (fun b u e => by
      rw [gk b (Nat.ne_of_lt (Nat.lt_of_lt_of_le (Heap.lt_size e) hp))]
      exact k b u e) fun q hq => by
      obtain ⟨a1, a2⟩ := ho q (List.mem_cons_of_mem _ hq)
      refine ⟨a1, fun G' H' e => a2 G' H' ?_⟩
      rw [e]
      exact gk q.1 fun z => n.1 (by rw [← z]; exact List.mem_map.mpr ⟨q, hq, rfl⟩)
    have I2 := I1.laidN (h' := h') (a := p.1) (o := p.2) (t' := t') (fun b u e => by
      have hb : b ≠ p.1 := fun z => by
        have e : G.get? b = some u := e
        rw [z, ga] at e
        cases e
      exact (gk b hb).symm.trans e) ga (by rw [updL_out n.1]; exact I.hok.fresh hp) (op h' _ rfl)
    exact I2
theorem vals_refs : ∀ as : List Addr, Vals (as.map V.ref) (as.map Value.ref)
  | [] => .nil
  | a :: as => .cons rfl (vals_refs as)
/-- the pairs of two lists, at new addresses -/
def tLz (K : PySem.W.Frag) (ta : TA) : TE := fun σ H Q => ta σ H fun vs H1 => ∃ a b xs ys, vs = [.ref a, .ref b] ∧ SqL K H1 a xs ∧ SqL K H1 b ys ∧ xs.length = ys.length ∧
  ∀ (ps : List Addr) (p : Addr) (H2 : Hp), ps.length = xs.length → Same H1 H2 → H1 p = none → H2 p = some (.lst (ps.map V.ref)) → (∀ (j : Nat) q, ps[j]? = some q → ∃ x y, xs[j]? = some x ∧ ys[j]? = some y ∧ H2 q = some (.tup [x, y])) → Q (.ref p) H2
theorem pe_listZip {X : Cx} {e e2 : Expr} {ta : TA} {p1 p2 q pos : Pos} (hc : X.calm = true) (hg : Gl X "list") (hm : X.mg "list" = none) (hg2 : Gl X "zip") (hm2 : X.mg "zip" = none) (ha : PA X [e, e2] ta)
    (hs : starEach [e, e2] X.env = (false, eval e X.env) :: starEach [e2] X.env := by rfl) (hpl : (backTo q (starEach [e2] X.env)).any (·.1) = false := by rfl)
    (na : starEach [.Call (.Name "zip" p2) [e, e2] [] q] X.env = (false, eval (.Call (.Name "zip" p2) [e, e2] [] q) X.env) :: starEach [] X.env := by rfl) :
    PE X (.Call (.Name "list" p1) [.Call (.Name "zip" p2) [e, e2] [] q] [] pos) (tLz X.K ta) := by
  refine ⟨fun pins s σ H Q I h => ?_⟩
  refine Call_ (ld_blt I hg hm boot_list (PyProof.Rows.callWith_type1 (args_cons ?_ na) na))
  refine Call_ (ld_blt I hg2 hm2 PyProof.Rows.boot_zip (PyProof.Rows.callWith_type1 (thn (ha.run q pins s σ H _ I h) fun us s1 ⟨vs, H1, I1, r1, q1⟩ => ?_) hs hpl))
  obtain ⟨a, b, xs, ys, ex, hqx, hqy, hl, qq⟩ := q1
  subst ex
  cases r1 with
  | cons r rr =>
    cases rr with
    | cons r' rr =>
      cases rr
      cases r
      cases r'
      obtain ⟨its, rv, pl1, z1⟩ := I1.list hqx
      obtain ⟨its2, rv2, pl2, z2⟩ := I1.list hqy
      have la : a < s1.heap.objs.size := pl1.lt
      have lb : b < s1.heap.objs.size := pl2.lt
      refine call_zip_2 pl1.isList pl2.isList fun h' hz hTI hTO h1 h2 hsz hk => args_nil ?_
      have li1 := rv.length
      have li2 := rv2.length
      refine zl_call (s := { s1 with heap := h' }) (n := xs.length) (I1.ok.hd hc) (PySem.W.ktu_apart s1.heap.objs.size a b la lb) (by rw [List.size_toArray, ← li1]) (by rw [List.size_toArray, ← li2, hl]) z1 hz hTI hTO h1 h2 (let ⟨o, e, r⟩ := pl1.isList; ⟨o, hk _ _ e, r⟩) (let ⟨o, e, r⟩ := pl2.isList; ⟨o, hk _ _ e, r⟩) fun h2' tk acc c as kp hS hlen hG hacc => ?_
      dsimp only at hS hG hacc kp
      have S0 : s1.heap.objs.size ≤ h'.objs.size := by omega
      obtain ⟨prs, epr⟩ : ∃ prs : List (Addr × HO), prs = (as.zip (xs.zip ys)).map fun z => (z.1, HO.tup [z.2.1, z.2.2]) := ⟨_, rfl⟩
      have lz : (xs.zip ys).length = as.length := by rw [List.length_zip, ← hl, Nat.min_self, hlen]
      have efs : prs.map Prod.fst = as := by
        rw [epr, List.map_map]
        show (as.zip (xs.zip ys)).map Prod.fst = as
        exact List.map_fst_zip (Nat.le_of_eq lz.symm)
      have eget : ∀ (j : Nat) (q : Addr), as[j]? = some q → ∃ x y, xs[j]? = some x ∧ ys[j]? = some y ∧ (q, HO.tup [x, y]) ∈ prs := fun j q hq => by
        have lj := (List.getElem?_eq_some_iff.mp hq).1
        have l1 : j < xs.length := by omega
        have l2 : j < ys.length := by omega
        refine ⟨xs[j], ys[j], List.getElem?_eq_getElem l1, List.getElem?_eq_getElem l2, ?_⟩
        rw [epr]
        refine List.mem_map.mpr ⟨(q, xs[j], ys[j]), ?_, rfl⟩
        refine List.mem_of_getElem? (i := j) ?_
        rw [List.getElem?_zip_eq_some]
        exact ⟨hq, List.getElem?_zip_eq_some.mpr ⟨List.getElem?_eq_getElem l1, List.getElem?_eq_getElem l2⟩⟩
      have nds : as.Nodup := hG.rise.imp fun h => Nat.ne_of_lt h
      have nS : h'.objs.size ∉ as := fun z => by
        have := hG.above _ z
        exact absurd this (Nat.not_succ_le_self _)
      have I2 := laidL (h' := h2') (t' := tk) I1 ((h'.objs.size, .lst (as.map V.ref)) :: prs) (by
          rw [List.map_cons, efs, List.nodup_cons]
          exact ⟨nS, nds⟩) (fun b u e => kp b u (Nat.ne_of_lt (Nat.lt_of_lt_of_le (Heap.lt_size e) (Nat.le_add_right _ _))) (Nat.ne_of_lt (Nat.lt_of_lt_of_le (Heap.lt_size e) (Nat.le_add_right _ _))) (Nat.ne_of_lt (Heap.lt_size e)) (Nat.ne_of_lt (Nat.lt_of_lt_of_le (Heap.lt_size e) (Nat.le_add_right _ _))) (hk b u e)) (fun p hp => by
          rcases List.mem_cons.mp hp with e | hp
          · subst e
            refine ⟨S0, fun G H' eG => ⟨by rw [List.length_map, hlen]; exact z1, as.map Value.ref, c, vals_refs as, ?_⟩⟩
            rw [eG, hS, ← hacc, Array.toArray_toList]
          · rw [epr] at hp
            obtain ⟨⟨q, x, y⟩, hm1, rfl⟩ := List.mem_map.mp hp
            obtain ⟨j, hj⟩ := List.mem_iff_getElem?.mp hm1
            rw [List.getElem?_zip_eq_some] at hj
            obtain ⟨hq, hxy⟩ := hj
            obtain ⟨hx, hy⟩ := List.getElem?_zip_eq_some.mp hxy
            obtain ⟨u, hu, ru⟩ := rv.get hx
            obtain ⟨v, hv, ru2⟩ := rv2.get hy
            obtain ⟨x', y', e1, e2, e3⟩ := hG.pairs j q hq
            have e1 : its[j]? = some x' := by simpa using e1
            have e2 : its2[j]? = some y' := by simpa using e2
            rw [hu] at e1
            rw [hv] at e2
            cases e1
            cases e2
            have aq := hG.above q (List.mem_of_getElem? hq)
            refine ⟨Nat.le_trans S0 (Nat.le_of_succ_le aq), fun G H' eG => ⟨by show 2 ≤ sizeLine; decide, [u, v], .cons ru (.cons ru2 .nil), ?_⟩⟩
            exact ⟨_, eG.trans e3, rfl, _, rfl⟩)
      have fr : ∀ b o, H1 b = some o → b ∉ ((h'.objs.size, HO.lst (as.map V.ref)) :: prs).map Prod.fst := fun b o e z => by
        have lt : b < s1.heap.objs.size := by
          apply Classical.byContradiction
          intro g
          rw [I1.hok.fresh (Nat.le_of_not_lt g)] at e
          cases e
        rw [List.map_cons, efs] at z
        rcases List.mem_cons.mp z with e | z
        · have e : b = h'.objs.size := e
          rw [e] at lt
          exact absurd (Nat.lt_of_lt_of_le lt S0) (Nat.lt_irrefl _)
        · exact absurd (Nat.lt_of_lt_of_le lt (Nat.le_trans S0 (Nat.le_of_succ_le (hG.above _ z)))) (Nat.lt_irrefl _)
      refine ⟨.ref h'.objs.size, _, I2, rfl, qq as h'.objs.size _ hlen (fun b o e => (updL_out (fr b o e)).trans e) (I1.hok.fresh S0) (updL_at (by rw [List.map_cons, efs, List.nodup_cons]; exact ⟨nS, nds⟩) List.mem_cons_self) fun j q hq => ?_⟩
      obtain ⟨x, y, hx, hy, hm⟩ := eget j q hq
      exact ⟨x, y, hx, hy, updL_at (by rw [List.map_cons, efs, List.nodup_cons]; exact ⟨nS, nds⟩) (List.mem_cons_of_mem _ hm)⟩
end Kx
/-! New names drawn. -/
namespace K03
open PySem PySem.Spec PyProof.Rows L2 Kx
def setS (l : List (Str × Str)) (k v : Str) : List (Str × Str) := if (l.any fun p => decide (p.1 = k)) = true then l.map (fun p => if p.1 = k then (p.1, v) else p) else l ++ [(k, v)]
def mergeS (a l : List (Str × Str)) : List (Str × Str) := l.foldl (fun a p => setS a p.1 p.2) a
theorem strD_put (l : List (Str × Str)) (k v : Str) : putK (strD l) (Sum.inr k) (V.str v) = strD (setS l k v) := by
  have e1 : ((strD l).any fun kv => decide (kv.1 = (Sum.inr k : Key))) = (l.any fun p => decide (p.1 = k)) := by
    rw [strD, List.any_map]
    congr 1
    funext p
    show decide ((Sum.inr p.1 : Key) = Sum.inr k) = decide (p.1 = k)
    by_cases h : p.1 = k
    · rw [decide_eq_true h, decide_eq_true (by rw [h])]
    · rw [decide_eq_false h, decide_eq_false fun z => h (Sum.inr.inj z)]
  unfold putK setS
  rw [e1]
  by_cases h : (l.any fun p => decide (p.1 = k)) = true
  · rw [if_pos h, if_pos h, strD, strD, List.map_map, List.map_map]
    refine List.map_congr_left fun p _ => ?_
    show (if (Sum.inr p.1 : Key) = Sum.inr k then ((Sum.inr p.1 : Key), V.str v) else ((Sum.inr p.1 : Key), V.str p.2)) = ((Sum.inr (if p.1 = k then (p.1, v) else p).1 : Key), V.str (if p.1 = k then (p.1, v) else p).2)
    by_cases hp : p.1 = k
    · rw [if_pos hp, if_pos (by rw [hp])]
    · rw [if_neg hp, if_neg fun z => hp (Sum.inr.inj z)]
  · rw [if_neg h, if_neg h, strD, strD, List.map_append]
    rfl
theorem strD_merge : ∀ (l a : List (Str × Str)), mergeK (strD a) (strD l) = strD (mergeS a l)
  | [], a => rfl
  | p :: l, a => by
    show mergeK (putK (strD a) (Sum.inr p.1) (V.str p.2)) (strD l) = _
    rw [strD_put, strD_merge l]
    rfl
theorem setS_all {Z : Str × Str → Prop} {l : List (Str × Str)} {k v : Str} (h : ∀ p, p ∈ l → Z p) (hz : Z (k, v)) : ∀ p, p ∈ setS l k v → Z p := by
  intro p hp
  unfold setS at hp
  split at hp
  · obtain ⟨q, hq, e⟩ := List.mem_map.mp hp
    by_cases hk : q.1 = k
    · rw [if_pos hk] at e
      rw [← e, hk]
      exact hz
    · rw [if_neg hk] at e
      rw [← e]
      exact h q hq
  · rcases List.mem_append.mp hp with hp | hp
    · exact h p hp
    · rw [List.mem_singleton.mp hp]
      exact hz
theorem setS_keys {l : List (Str × Str)} {k v : Str} (h : (l.map Prod.fst).Nodup) : ((setS l k v).map Prod.fst).Nodup := by
  unfold setS
  split
  · rw [List.map_map]
    rw [show (l.map (Prod.fst ∘ fun p => if p.1 = k then (p.1, v) else p)) = l.map Prod.fst from List.map_congr_left fun p _ => by
      show (if p.1 = k then (p.1, v) else p).1 = p.1
      split <;> rfl]
    exact h
  · rename_i hn
    rw [List.map_append, List.nodup_append]
    refine ⟨h, by simp, fun x hx y hy e => hn ?_⟩
    rw [List.map_singleton, List.mem_singleton] at hy
    obtain ⟨p, hp, e2⟩ := List.mem_map.mp hx
    exact List.any_eq_true.mpr ⟨p, hp, decide_eq_true (by rw [e2, e, hy])⟩
theorem setS_len (l : List (Str × Str)) (k v : Str) : (setS l k v).length ≤ l.length + 1 := by
  unfold setS
  split
  · rw [List.length_map]
    omega
  · rw [List.length_append]
    exact Nat.le_refl _
theorem mergeS_all {Z : Str × Str → Prop} : ∀ (l a : List (Str × Str)), (∀ p, p ∈ a → Z p) → (∀ p, p ∈ l → Z p) → ∀ p, p ∈ mergeS a l → Z p
  | [], a, h, _ => h
  | q :: l, a, h, hl => mergeS_all l (setS a q.1 q.2) (setS_all h (hl q List.mem_cons_self)) fun p hp => hl p (List.mem_cons_of_mem _ hp)
theorem mergeS_keys : ∀ (l a : List (Str × Str)), (a.map Prod.fst).Nodup → ((mergeS a l).map Prod.fst).Nodup
  | [], a, h => h
  | q :: l, a, h => mergeS_keys l (setS a q.1 q.2) (setS_keys h)
theorem mergeS_len : ∀ (l a : List (Str × Str)), (mergeS a l).length ≤ a.length + l.length
  | [], a => Nat.le_refl _
  | q :: l, a => by
    have := mergeS_len l (setS a q.1 q.2)
    have := setS_len a q.1 q.2
    rw [List.length_cons]
    show (mergeS (setS a q.1 q.2) l).length ≤ _
    omega
/-- pairs of texts at these addresses -/
def PrA (H : Hp) (ps : List Addr) (l : List (Str × Str)) : Prop := Paired (fun (q : Addr) (p : Str × Str) => H q = some (.tup [.str p.1, .str p.2])) ps l
theorem PrA.dict {K : PySem.W.Frag} {H : Hp} {ps : List Addr} {l : List (Str × Str)} (h : PrA H ps l) : Paired (fun p kv => SqT K H p [kV kv.1, kv.2]) ps (strD l) := by
  unfold PrA at h
  induction h with
  | nil => exact .nil
  | cons a t ih => exact .cons (SqT.of a) ih
theorem PrA.up {H H' : Hp} {ps : List Addr} {l : List (Str × Str)} (h : PrA H ps l) (t : Tups H H') : PrA H' ps l := by
  unfold PrA at h ⊢
  induction h with
  | nil => exact .nil
  | cons a r ih => exact .cons (t _ _ a) ih
theorem PrA.len {H : Hp} {ps : List Addr} {l : List (Str × Str)} (h : PrA H ps l) : ps.length = l.length := by
  unfold PrA at h
  induction h with
  | nil => rfl
  | cons a r ih => rw [List.length_cons, List.length_cons, ih]
theorem PrA.snoc {H : Hp} {ps : List Addr} {l : List (Str × Str)} {q : Addr} {x y : Str} (h : PrA H ps l) (e : H q = some (.tup [.str x, .str y])) : PrA H (ps ++ [q]) (l ++ [(x, y)]) := Paired.snoc h e
theorem PrA.app {H : Hp} : ∀ {ps qs : List Addr} {l r : List (Str × Str)}, PrA H ps l → PrA H qs r → PrA H (ps ++ qs) (l ++ r)
  | _, _, _, _, .nil, h => h
  | _, _, _, _, .cons a t, h => .cons a (PrA.app t h)
theorem PrA.zip {H : Hp} : ∀ (ps : List Addr) (zs ws : List Str), ps.length = zs.length → zs.length = ws.length → (∀ (j : Nat) q, ps[j]? = some q → ∃ x y, (zs.map V.str)[j]? = some x ∧ (ws.map V.str)[j]? = some y ∧ H q = some (.tup [x, y])) → PrA H ps (zs.zip ws)
  | [], [], [], _, _, _ => .nil
  | p :: ps, z :: zs, w :: ws, e1, e2, h => by
    obtain ⟨x, y, h1, h2, h3⟩ := h 0 p rfl
    cases h1
    cases h2
    exact .cons h3 (PrA.zip ps zs ws (Nat.succ.inj e1) (Nat.succ.inj e2) fun j q hq => h (j + 1) q hq)
  | [], _ :: _, _, e, _, _ => nomatch e
  | _ :: _, [], _, e, _, _ => nomatch e
  | [], [], _ :: _, _, e, _ => nomatch e
  | _ :: _, _ :: _, [], _, e, _ => nomatch e
mutual
theorem row_nm {r : NK} : ∀ d : PyData, formedD d = true → r ∈ rowsD d → isNm r.1 = true
  | .tuple (x :: ds), f, h => by
    rw [formedD, Bool.and_eq_true, Bool.and_eq_true] at f
    rw [rowsD] at h
    rcases List.mem_cons.mp h with e | h
    · rw [e]
      cases x with
      | str z => exact f.1.2
      | _ => cases f.1.2
    · exact row_nms ds f.2 h
  | .tuple [], f, _ => by cases f
  | .none, f, _ => by cases f
  | .bool _, f, _ => by cases f
  | .int _, f, _ => by cases f
  | .str _, f, _ => by cases f
  | .list _, f, _ => by cases f
  | .dict _, f, _ => by cases f
theorem row_nms {r : NK} : ∀ ds : List PyData, formedAll ds = true → r ∈ rowsAll ds → isNm r.1 = true
  | [], _, h => by cases h
  | d :: ds, f, h => by
    rw [formedAll, Bool.and_eq_true] at f
    rw [rowsAll] at h
    rcases List.mem_append.mp h with h | h
    · exact row_nm d f.1 h
    · exact row_nms ds f.2 h
end
theorem names_nm {d : PyData} (f : formedD d = true) : ∀ z, z ∈ namesD d → isNm z = true := fun z hz => by
  obtain ⟨r, hr, e⟩ := List.mem_map.mp hz
  rw [← e]
  exact row_nm d f hr
end K03
/-! New names drawn: the def. -/
namespace K03
open PySem PySem.Spec PyProof.Rows L2 Kx
theorem tups_new {H : Hp} {p : Addr} {o : HO} (n : H p = none) : Tups H (upd H p o) := .of (same_put n)
def six : List Str := ["q", "qq", "w", "xin", "zzzzzzz", "hiddenaa"]
theorem six_nm : ∀ z, z ∈ six → isNm z = true := by decide +kernel
section
variable {P : Program} {w : World} {K : PySem.W.Frag} {mg : Str → Option Value} {base : Heap}
def NmP (p : Str × Str) : Prop := isNm p.1 = true ∧ isNm p.2 = true
def spRg (K : PySem.W.Frag) : Sp := fun vs H Q _ => ∃ (a : Addr) (n : Nat) (x : V) (d : PyData), vs = [.ref a, x] ∧ Dice H a n ∧ n + 250 < cap ∧ Dx K H x d ∧ formedD d = true ∧ d.depth ≤ 4 ∧
  ∀ p m H', But a H H' → Dice H' a (n + 250) → H p = none → p ≠ a → H' p = some (.dK (strD m)) → (∀ p, p ∈ m → NmP p) → (m.map Prod.fst).Nodup → m.length ≤ 100 → Q (.ref p) H'
theorem ok_rg (T : Tx K mg) : FnOk P w K mg base CX0 8 T.a_law_renaming T.d_law_renaming ["dice", "term"] (spRg K) := by
  have nd := sc__law_renaming.nd
  have Gbl := ok_bl (P := P) (w := w) (base := base) T 4
  have Groll := ok_roll (P := P) (w := w) (base := base) T
  have Gpick := ok_pick (P := P) (w := w) (base := base) T
  have Gmixed := ok_mixed (P := P) (w := w) (base := base) T
  refine T.f_law_renaming.ok sc__law_renaming (fun vs H Q E h => ?_) (fun cdv A outer s H vs Q E hr h => ?_)
  · obtain ⟨a, n, x, d, rfl, _⟩ := h
    rfl
  · obtain ⟨a, n, x, d, rfl, hd, hn, dv, ef, dpt, q⟩ := h
    refine ⟨_, (pss_cons (ps_set (i := 2) nd rfl (.inr rfl) (pe_sortSet (by rfl) (by rfl) T.b_sorted (by rfl) T.b_set (pe_lc (own := [("part", 8)]) (g := (gName 8)) (tt := tYes) (by rfl) nd (pi_list (pe_call Gbl (hr.mono (by omega)) (by rfl) T.g_law_below T.f_law_below.kp T.n_law_below .nil pass0 (pa_cons (pv 1) pa_nil))) (blkOk_by (own := [("part", 8)]) (N := N__law_renaming) (sc := defScope s__law_renaming) (by decide +kernel)) (fun _ _ _ _ _ => pg_name (i := 8) nd rfl (.inl rfl)) (fun _ _ _ _ _ => pts_nil) (fun _ _ _ _ _ => (pe_ix (r := rIxT K) ix_tup (pv 8) pe_int (fun _ _ => rfl))))))
      (pss_cons (ps_set (i := 3) nd rfl (.inl rfl) (pe_call Groll (hr.mono (by omega)) (by rfl) T.g_law_roll T.f_law_roll.kp T.n_law_roll .nil pass0 (pa_cons (pv 0) (pa_cons pe_int pa_nil))))
      (pss_cons (ps_if (pt_cmpR op_eq (pv 3) pe_int (nomark _)) (pss_one (ps_ret (pe_callTy (call_dictP rfl) (by rfl) T.b_dict (by decide +kernel) (pa_cons (pe_listZip rfl (by rfl) T.b_list (by rfl) T.b_zip (pa_cons (pv 2) (pa_cons (pe_call Gmixed (hr.mono (by omega)) (by rfl) T.g_law_mixed T.f_law_mixed.kp T.n_law_mixed .nil pass0 (pa_cons (pv 0) (pa_cons (pv 2) pa_nil))) pa_nil))) pa_nil)))) pss_nil)
      (pss_cons (ps_setLc (i := 4) (own := [("name", 7)]) (g := (gName 7)) (by rfl) nd rfl rfl (sw_true rfl rfl rfl (by decide +kernel)) (pi_list (pv 2)) (blkOk_by (own := [("name", 7)]) (N := N__law_renaming) (sc := defScope s__law_renaming) (by decide +kernel)) (fun _ _ _ _ _ => pg_name (i := 7) nd rfl (.inl rfl)) (fun _ _ _ _ _ => (pts_one (pt_cmpR op_eq (pe_call Groll (hr.mono (by omega)) (by rfl) T.g_law_roll T.f_law_roll.kp T.n_law_roll .nil pass0 (pa_cons (pv 0) (pa_cons pe_int pa_nil))) pe_int (nomark _)))) (fun _ _ _ _ _ => (pv 7)))
      (C8.pss_cut (ps_set (i := 5) nd rfl (.inr rfl) (pe_op op_cat (pe_lst (pa_cons pe_str (pa_cons pe_str (pa_cons pe_str (pa_cons pe_str (pa_cons pe_str (pa_cons pe_str pa_nil))))))) (pe_ifExp (pt_cmpR op_eq (pv 3) pe_int (nomark _)) (pv 2) (pe_lst pa_nil))))
      (pss_cons (ps_setLc (i := 6) (own := [("name", 7)]) (g := (gName 7)) (tt := tYes) (by rfl) nd rfl rfl (sw_true rfl rfl rfl (by decide +kernel)) (pi_list (pv 4)) (blkOk_by (own := [("name", 7)]) (N := N__law_renaming) (sc := defScope s__law_renaming) (by decide +kernel)) (fun _ _ _ _ _ => pg_name (i := 7) nd rfl (.inl rfl)) (fun _ _ _ _ _ => pts_nil) (fun _ _ _ _ _ => (pe_tup (pa_cons (pv 7) (pa_cons (pe_call Gpick (hr.mono (by omega)) (by rfl) T.g_law_pick T.f_law_pick.kp T.n_law_pick .nil pass0 (pa_cons (pv 0) (pa_cons (pv 5) pa_nil))) pa_nil)))))
      (C8.pss_cut (ps_if (pt_cmpR op_eq (pv 3) pe_int (nomark _)) (pss_one (ps_set (i := 6) nd rfl (.inl rfl) (pe_op op_cat (pv 6) (pe_lc (own := [("name", 7)]) (g := (gName 7)) (tt := tYes) (by rfl) nd (pi_tup (pe_tup (pa_cons pe_str (pa_cons pe_str pa_nil)))) (blkOk_by (own := [("name", 7)]) (N := N__law_renaming) (sc := defScope s__law_renaming) (by decide +kernel)) (fun _ _ _ _ _ => pg_name (i := 7) nd rfl (.inl rfl)) (fun _ _ _ _ _ => pts_nil) (fun _ _ _ _ _ => (pe_tup (pa_cons (pv 7) (pa_cons (pe_call Gpick (hr.mono (by omega)) (by rfl) T.g_law_pick T.f_law_pick.kp T.n_law_pick .nil pass0 (pa_cons (pv 0) (pa_cons (pv 2) pa_nil))) pa_nil)))))))) pss_nil)
      (pss_one (ps_ret (pe_callTy (call_dictP rfl) (by rfl) T.b_dict (by decide +kernel) (pa_cons (pv 6) pa_nil))))))))))), ?_⟩
    have lp4 : (preD d).length ≤ 40 := pre_most 4 d ef dpt
    refine ⟨_, rfl, x, d, rfl, dv, ef, dpt, by omega, fun p H2 ys sm2 np ep dys => ?_⟩
    have lys := dys.length
    have lb := bel_len d
    have fb := bel_formed d ef
    refine ⟨p, rfl, ⟨_, .inl (.inl ep)⟩, fun D nD => ?_⟩
    refine lc_list (K := K) (a := p) (xs := ys) (fun i H3 => Same H2 H3 ∧ H3 D = some (.lst ((((belD d).take i).map fun e => (rowD e).1).map V.str)))
      ⟨same_new nD, by rw [upd_same]; simp⟩ (fun i H3 _ h => .inl (.inl (h.1 _ _ ep))) ?_ ?_
    · rintro i y H3 hi ⟨sm3, eD⟩
      have lt : i < (belD d).length := by
        rw [← lys]
        exact (List.getElem?_eq_some_iff.mp hi).1
      have gd := at_of lt
      obtain ⟨v2, hv2, dv2⟩ := dys.get gd
      rw [hi] at hv2
      cases hv2
      obtain ⟨nm, es, ee, l3, hnm, hfa⟩ := formed_shape (fb _ (List.mem_of_getElem? gd))
      have er : (rowD ((belD d)[i])).1 = nm := by rw [ee]; rfl
      rw [ee] at dv2
      cases dv2 with
      | @tup b xs _ hb hs =>
      cases hs with
      | @cons v0 vr _ _ h0 hws =>
      cases h0
      have tz := sm3 _ _ hb
      refine ⟨rfl, (iteT (B := False) ?_ : if true = true then _ else False)⟩
      refine ⟨_, rfl, b, _, 0, .str nm, rfl, rfl, SqT.of tz, atI_nat (j := 0) rfl, _, eD, ?_, fun b o hb => ?_, ?_⟩
      · rw [List.length_map, List.length_map, List.length_take]
        exact small1000 (by omega)
      · rw [upd_ne (ne_of_none hb nD)]
        exact sm3 b o hb
      · rw [upd_same, List.take_add_one, gd, Option.toList_some, List.map_append, List.map_append, List.map_singleton, List.map_singleton, er]
    · rintro H3 ⟨sm3, eD⟩
      rw [lys, List.take_length] at eD
      have s13 := sm2.trans sm3
      refine ⟨D, _, rfl, .inl (.inl eD), by rw [List.length_map]; omega, fun zs ndz mz pz npz => ?_⟩
      have mz2 : ∀ z, z ∈ zs ↔ z ∈ namesD d := fun z => by rw [mz, names_iff ef]
      have lz : zs.length ≤ 40 := by
        have e := nodup_le ((belD d).map fun e => (rowD e).1) zs ndz fun z hz => (mz z).mp hz
        rw [List.length_map] at e
        omega
      have nmz : ∀ z, z ∈ zs → isNm z = true := fun z hz => names_nm ef z ((mz2 z).mp hz)
      have npza : pz ≠ a := (hd.up s13).ne npz
      have sz := same_put (o := .lst (zs.map V.str)) npz
      have ez : (upd H3 pz (.lst (zs.map V.str))) pz = some (.lst (zs.map V.str)) := upd_same
      have s14 := s13.trans sz
      generalize upd H3 pz (.lst (zs.map V.str)) = H4 at ez s14 ⊢
      clear sz
      have d4 := hd.up s14
      refine ⟨_, rfl, a, n, 4, rfl, d4, by unfold cap at hn ⊢; omega, by decide, by decide, fun r H5 bt5 d5 r0 r4 => ?_⟩
      have b5 : But a H H5 := (But.of s14).trans bt5
      have ez5 := bt5 _ _ ez npza
      refine ⟨_, rfl, rfl, _, rfl, ?_⟩
      by_cases w0 : r = 0
      · rw [show decide (V.int r = V.int 0) = true from decide_eq_true (by rw [w0])]
        refine iteT ⟨_, rfl, _, rfl, _, rfl, a, pz, n + 1, zs.map V.str, rfl, d5, by rw [List.length_map]; unfold cap at hn ⊢; omega, .inl (.inl ez5), npza, by rw [List.length_map]; omega, fun vs q1 H6 bt6 d6 pm nq1 nq1a eq6 => ?_⟩
        obtain ⟨ws, pw, evs⟩ := perm_back pm.symm zs rfl
        subst evs
        have lw := pw.length_eq
        have ez6 := bt6 _ _ ez5 npza
        refine ⟨pz, q1, zs.map V.str, ws.map V.str, rfl, .inl (.inl ez6), .inl (.inl eq6), by rw [List.length_map, List.length_map, lw], fun ps p2 H7 lps s7 np2 ep2 hps => ?_⟩
        rw [List.length_map] at lps d6
        have pra := PrA.zip ps zs ws lps lw.symm hps
        refine ⟨p2, ps, strD (zs.zip ws), rfl, .inl (.inl ep2), pra.dict, fun p3 np3 => ?_⟩
        have d7 := d6.up s7
        have b7 := (b5.trans bt6).trans (.of s7)
        have np3a := d7.ne np3
        refine q p3 (mergeS [] (zs.zip ws)) _ (b7.trans (.of (same_put np3))) ((d7.put np3a).le (by omega)) (b7.free np3a np3) np3a (by rw [upd_same, ← strD_merge]; rfl) (mergeS_all _ _ (fun p hp => nomatch hp) fun p hp => ?_) (mergeS_keys _ _ List.nodup_nil) ?_
        · obtain ⟨h1, h2⟩ := List.of_mem_zip (a := p.1) (b := p.2) hp
          exact ⟨nmz _ h1, nmz _ (pw.mem_iff.mp h2)⟩
        · have := mergeS_len (zs.zip ws) []
          rw [List.length_zip] at this
          have h0 : ([] : List (Str × Str)).length = 0 := rfl
          omega
      · rw [show decide (V.int r = V.int 0) = false from decide_eq_false fun z => w0 (V.int.inj z)]
        refine iteF ?_
        -- some
        refine ⟨_, rfl, pz, rfl, ⟨_, .inl (.inl ez5)⟩, fun D2 nD2 => ?_⟩
        have npS := d5.ne nD2
        have sD2 := same_put (o := .lst []) nD2
        refine lc_list (K := K) (a := pz) (xs := zs.map V.str) (fun i G => But a H5 G ∧ Dice G a (n + 1 + i) ∧ ∃ ss : List Str, G D2 = some (.lst (ss.map V.str)) ∧ ss.length ≤ i ∧ ∀ z, z ∈ ss → z ∈ zs)
          ⟨But.of sD2, d5.up sD2, [], upd_same, Nat.le_refl _, fun y h => nomatch h⟩ (fun i G _ h => .inl (.inl (h.1 _ _ ez5 npza))) ?_ ?_
        · rintro i y G hi ⟨bt, dd, ss, eS, ls, ms⟩
          rw [List.getElem?_map] at hi
          obtain ⟨z, hz, rfl⟩ := Option.map_eq_some_iff.mp hi
          have lt : i < zs.length := (List.getElem?_eq_some_iff.mp hz).1
          refine ⟨rfl, _, rfl, a, n + 1 + i, 2, rfl, dd, by unfold cap at hn ⊢; omega, by decide, by decide, fun r2 G2 bt2 dd2 _ _ => ⟨rfl, _, rfl, ite2 (fun _ => ?_) (fun _ => ?_)⟩⟩
          · refine ⟨_, rfl, _, bt2 _ _ eS npS, by rw [List.length_map]; exact small1000 (by omega), (bt.trans bt2).put nD2, (dd2.put npS).le (by omega), ss ++ [z], by rw [upd_same, List.map_append]; rfl, by rw [List.length_append]; exact Nat.succ_le_succ ls, fun u hu => ?_⟩
            rcases List.mem_append.mp hu with h | h
            · exact ms u h
            · rw [List.mem_singleton.mp h]
              exact List.mem_of_getElem? hz
          · exact ⟨bt.trans bt2, dd2.le (by omega), ss, bt2 _ _ eS npS, by omega, ms⟩
        · rintro H6 ⟨bt6, d6, ss, eS, ls, ms⟩
          rw [List.length_map] at ls d6
          have ez6 := bt6 _ _ ez5 npza
          have b6 := b5.trans bt6
          -- fresh
          refine ⟨fun σ G => But a H G ∧ Dice G a (n + 1 + 40) ∧ G pz = some (.lst (zs.map V.str)) ∧ G D2 = some (.lst (ss.map V.str)) ∧ ∃ (fr : Addr) (fs : List Str), fr ≠ a ∧ G fr = some (.lst (fs.map V.str)) ∧ (∀ z, z ∈ fs → isNm z = true) ∧ 0 < fs.length ∧ fs.length ≤ 46 ∧
            ∃ y6 y7 y8, σ = [some (.ref a), some x, some (.ref pz), some (.int r), some (.ref D2), some (.ref fr), y6, y7, y8], ?_, ?_⟩
          · refine ⟨by show 6 ≤ sizeLine; decide, fun f1 nf1 => ⟨_, rfl, rfl, _, rfl, ite2 (fun _ => ?_) (fun _ => ?_)⟩⟩
            · have s1 := same_put (o := .lst [.str "q", .str "qq", .str "w", .str "xin", .str "zzzzzzz", .str "hiddenaa"]) nf1
              have nf1a := d6.ne nf1
              refine ⟨_, rfl, f1, pz, _, _, rfl, rfl, upd_same, s1 _ _ ez6, by rw [List.length_map]; exact Nat.le_of_lt (small1000 (by show 6 + zs.length ≤ 1000; omega)), fun fr nfr => ?_⟩
              have s2 := same_put (o := .lst ([.str "q", .str "qq", .str "w", .str "xin", .str "zzzzzzz", .str "hiddenaa"] ++ zs.map V.str)) nfr
              have s12 := s1.trans s2
              refine ⟨b6.trans (.of s12), (d6.up s12).le (by omega), s12 _ _ ez6, s12 _ _ eS, fr, six ++ zs, (d6.up s1).ne nfr, by rw [upd_same, List.map_append]; rfl, fun z hz => ?_, by rw [List.length_append]; exact Nat.lt_of_lt_of_le (by decide : 0 < six.length) (Nat.le_add_right _ _), by rw [List.length_append]; show 6 + zs.length ≤ 46; omega, _, _, _, rfl⟩
              rcases List.mem_append.mp hz with h | h
              · exact six_nm z h
              · exact nmz z h
            · refine ⟨Nat.zero_le _, fun f2 nf2 => ⟨f1, f2, _, _, rfl, rfl, same_put nf2 _ _ upd_same, upd_same, by show 6 + 0 ≤ sizeLine; decide, fun fr nfr => ?_⟩⟩
              have s1 := same_put (o := .lst [.str "q", .str "qq", .str "w", .str "xin", .str "zzzzzzz", .str "hiddenaa"]) nf1
              have s12 := s1.trans ((same_put nf2).trans (same_put (o := .lst ([.str "q", .str "qq", .str "w", .str "xin", .str "zzzzzzz", .str "hiddenaa"] ++ [])) nfr))
              refine ⟨b6.trans (.of s12), (d6.up s12).le (by omega), s12 _ _ ez6, s12 _ _ eS, fr, six, ((d6.up s1).up (same_put nf2)).ne nfr, by rw [upd_same]; rfl, six_nm, by decide, by decide, _, _, _, rfl⟩
          · rintro σ7 H7 ⟨b7, d7, ez7, eS7, fr, fs, nfa, ef7, nmf, f0, f46, y6, y7, y8, rfl⟩
            -- found
            refine ⟨_, rfl, D2, rfl, ⟨_, .inl (.inl eS7)⟩, fun F nF => ?_⟩
            have nFa := d7.ne nF
            have sF := same_put (o := .lst []) nF
            refine lc_list (K := K) (a := D2) (xs := ss.map V.str) (fun i G => But a H7 G ∧ Dice G a (n + 1 + 40 + i) ∧ ∃ (as : List Addr) (l : List (Str × Str)), G F = some (.lst (as.map V.ref)) ∧ PrA G as l ∧ l.length = i ∧ ∀ p, p ∈ l → NmP p)
              ⟨But.of sF, d7.up sF, [], [], upd_same, .nil, rfl, fun y h => nomatch h⟩ (fun i G _ h => .inl (.inl (h.1 _ _ eS7 npS))) ?_ ?_
            · rintro i y G hi ⟨bt, dd, as, l, eF, pr, ll, nl⟩
              rw [List.getElem?_map] at hi
              obtain ⟨z, hz, rfl⟩ := Option.map_eq_some_iff.mp hi
              have lt : i < ss.length := (List.getElem?_eq_some_iff.mp hz).1
              have nz := nmz z (ms z (List.mem_of_getElem? hz))
              refine ⟨rfl, (iteT (B := False) ?_ : if true = true then _ else False)⟩
              refine ⟨_, rfl, _, rfl, _, rfl, a, fr, n + 1 + 40 + i, fs.map V.str, rfl, dd, by unfold cap at hn ⊢; omega, .inl (.inl (bt _ _ ef7 nfa)), nfa, by rw [List.length_map]; exact f0, by rw [List.length_map]; omega, fun j v G2 bt2 dd2 hv => ⟨by show 2 ≤ sizeLine; decide, fun t nt => ?_⟩⟩
              rw [List.getElem?_map] at hv
              obtain ⟨u, hu, rfl⟩ := Option.map_eq_some_iff.mp hv
              have nu := nmf u (List.mem_of_getElem? hu)
              have st := same_put (o := .tup [.str z, .str u]) nt
              have eF2 := st _ _ (bt2 _ _ eF nFa)
              have tF : F ≠ t := ne_of_none (bt2 _ _ eF nFa) nt
              have pl := pr.len
              refine ⟨_, eF2, by rw [List.length_map]; exact small1000 (by omega), ((bt.trans bt2).trans (.of st)).put nF, ((dd2.up st).put nFa).le (by omega), as ++ [t], l ++ [(z, u)], by rw [upd_same, List.map_append]; rfl, PrA.snoc (pr.up (((Tups.but bt2 dd).trans (.of st)).trans (.lst eF2))) ?_, by rw [List.length_append, ll]; rfl, fun p hp => ?_⟩
              · rw [upd_ne tF.symm, upd_same]
              · rcases List.mem_append.mp hp with h | h
                · exact nl p h
                · rw [List.mem_singleton.mp h]
                  exact ⟨nz, nu⟩
            · rintro H8 ⟨bt8, d8, as, l, eF, pr, ll, nl⟩
              rw [List.length_map] at ll d8
              have b8 := b7.trans bt8
              have ez8 := bt8 _ _ ez7 npza
              refine ⟨fun σ G => But a H G ∧ Dice G a (n + 200) ∧ ∃ (F : Addr) (as : List Addr) (l : List (Str × Str)), G F = some (.lst (as.map V.ref)) ∧ PrA G as l ∧ l.length ≤ 42 ∧ (∀ p, p ∈ l → NmP p) ∧ ∃ y0 y1 y2 y3 y4 y5 y7 y8, σ = [y0, y1, y2, y3, y4, y5, some (.ref F), y7, y8], ?_, ?_⟩
              · refine ⟨_, rfl, rfl, _, rfl, ite2 (fun _ => ?_) (fun _ => ⟨b8, d8.le (by omega), F, as, l, eF, pr, by omega, nl, _, _, _, _, _, _, _, _, rfl⟩)⟩
                have z0 : 0 < zs.length := by
                  obtain ⟨x0, ds0, e0, _⟩ := formed_shape ef
                  refine List.length_pos_of_mem ((mz2 x0).mpr ?_)
                  rw [e0, namesD, rowsD, List.map_cons]
                  exact List.mem_cons_self
                refine ⟨_, rfl, by show 2 ≤ sizeLine; decide, fun tt ntt => ⟨tt, rfl, ⟨_, SqT.of upd_same⟩, fun D3 nD3 => ?_⟩⟩
                have sT := same_put (o := .tup [.str "k", .str "kk"]) ntt
                have eT : (upd H8 tt (.tup [.str "k", .str "kk"])) tt = some (.tup [.str "k", .str "kk"]) := upd_same
                have d8' := d8.up sT
                have b8' := b8.trans (.of sT)
                have eF8 := sT _ _ eF
                have ez8' := sT _ _ ez8
                have pr8 := pr.up (.of sT)
                generalize upd H8 tt (.tup [.str "k", .str "kk"]) = H9 at sT eT d8' b8' eF8 ez8' pr8 nD3 ⊢
                have nDa := d8'.ne nD3
                have sD3 := same_put (o := .lst []) nD3
                refine lc_tup (K := K) (a := tt) (xs := [.str "k", .str "kk"]) (fun i G => But a H9 G ∧ Dice G a (n + 1 + 40 + ss.length + i) ∧ ∃ (as2 : List Addr) (l2 : List (Str × Str)), G D3 = some (.lst (as2.map V.ref)) ∧ PrA G as2 l2 ∧ l2.length = i ∧ ∀ p, p ∈ l2 → NmP p)
                  ⟨But.of sD3, d8'.up sD3, [], [], upd_same, .nil, rfl, fun y h => nomatch h⟩ (fun i G _ h => SqT.of ((Tups.but h.1 d8') _ _ eT)) ?_ ?_
                · rintro i y G hi ⟨bt, dd, as2, l2, e2, pr2, ll2, nl2⟩
                  obtain ⟨z, rfl, nz, li⟩ : ∃ z, y = V.str z ∧ isNm z = true ∧ i < 2 := by
                    match i, hi with
                    | 0, hi =>
                      cases hi
                      exact ⟨"k", rfl, by decide +kernel, by decide⟩
                    | 1, hi =>
                      cases hi
                      exact ⟨"kk", rfl, by decide +kernel, by decide⟩
                  refine ⟨rfl, (iteT (B := False) ?_ : if true = true then _ else False)⟩
                  refine ⟨_, rfl, _, rfl, _, rfl, a, pz, n + 1 + 40 + ss.length + i, zs.map V.str, rfl, dd, by unfold cap at hn ⊢; omega, .inl (.inl (bt _ _ ez8' npza)), npza, by rw [List.length_map]; exact z0, by rw [List.length_map]; omega, fun j v G2 bt2 dd2 hv => ⟨by show 2 ≤ sizeLine; decide, fun t nt => ?_⟩⟩
                  rw [List.getElem?_map] at hv
                  obtain ⟨u, hu, rfl⟩ := Option.map_eq_some_iff.mp hv
                  have nu := nmz u (List.mem_of_getElem? hu)
                  have st := same_put (o := .tup [.str z, .str u]) nt
                  have eF2 := st _ _ (bt2 _ _ e2 nDa)
                  have tF : D3 ≠ t := ne_of_none (bt2 _ _ e2 nDa) nt
                  have pl := pr2.len
                  refine ⟨_, eF2, by rw [List.length_map]; exact small1000 (by omega), ((bt.trans bt2).trans (.of st)).put nD3, ((dd2.up st).put nDa).le (by omega), as2 ++ [t], l2 ++ [(z, u)], by rw [upd_same, List.map_append]; rfl, PrA.snoc (pr2.up (((Tups.but bt2 dd).trans (.of st)).trans (.lst eF2))) ?_, by rw [List.length_append, ll2]; rfl, fun p hp => ?_⟩
                  · rw [upd_ne tF.symm, upd_same]
                  · rcases List.mem_append.mp hp with h | h
                    · exact nl2 p h
                    · rw [List.mem_singleton.mp h]
                      exact ⟨nz, nu⟩
                · rintro G ⟨bt, dd, as2, l2, e2, pr2, ll2, nl2⟩
                  have ll2 : l2.length = 2 := ll2
                  have dd : Dice G a (n + 1 + 40 + ss.length + 2) := dd
                  have eFG := bt _ _ eF8 nFa
                  have q1 := pr.len
                  have q2 := pr2.len
                  refine ⟨F, D3, _, _, rfl, rfl, eFG, e2, by rw [List.length_map, List.length_map]; exact Nat.le_of_lt (small1000 (by omega)), fun F2 nF2 => ?_⟩
                  have sF2 := same_put (o := .lst (as.map V.ref ++ as2.map V.ref)) nF2
                  refine ⟨(b8'.trans bt).trans (.of sF2), (dd.up sF2).le (by omega), F2, as ++ as2, l ++ l2, by rw [upd_same, List.map_append], PrA.app ((pr8.up (Tups.but bt d8')).up (.of sF2)) (pr2.up (.of sF2)), by rw [List.length_append]; omega, fun p hp => ?_, _, _, _, _, _, _, _, _, rfl⟩
                  rcases List.mem_append.mp hp with h | h
                  · exact nl p h
                  · exact nl2 p h
              · rintro σ9 H9 ⟨b9, d9, F9, as9, l9, eF9, pr9, ll9, nl9, y0, y1, y2, y3, y4, y5, y7, y8, rfl⟩
                refine ⟨_, rfl, F9, as9, strD l9, rfl, .inl (.inl eF9), pr9.dict, fun p3 np3 => ?_⟩
                have np3a := d9.ne np3
                refine q p3 (mergeS [] l9) _ (b9.trans (.of (same_put np3))) ((d9.put np3a).le (by omega)) (b9.free np3a np3) np3a (by rw [upd_same, ← strD_merge]; rfl) (mergeS_all _ _ (fun p hp => nomatch hp) nl9) (mergeS_keys _ _ List.nodup_nil) ?_
                have := mergeS_len l9 []
                have h0 : ([] : List (Str × Str)).length = 0 := rfl
                omega
end
end K03
/-! The dict of names as data; depths of renamed terms. -/
namespace K03
open PySem PySem.Spec PyProof.Rows L2 Kx
def datM (m : List (Str × Str)) : PyData := .dict (m.map fun p => (.str p.1, .str p.2))
theorem kvd_strD : ∀ m : List (Str × Str), KvD (strD m) (m.map fun p => (.str p.1, .str p.2))
  | [] => .nil
  | p :: m => .str (kvd_strD m)
theorem datM_dx {K : PySem.W.Frag} {H : Hp} {a : Addr} {m : List (Str × Str)} (h : H a = some (.dK (strD m))) : Dx K H (.ref a) (datM m) := .dic h (kvd_strD m)
theorem datM_sw (m : List (Str × Str)) : (datM m).showable = true := by
  unfold datM
  simp only [PyData.showable]
  induction m with
  | nil => simp [PyData.showableKv]
  | cons p m ih => simp [PyData.showableKv, PyData.showable, ih]
theorem datM_nl (m : List (Str × Str)) : noL (datM m) = true := by
  unfold datM
  simp [noL]
theorem datM_dp (m : List (Str × Str)) : (datM m).depth ≤ 60 := by
  unfold datM
  simp only [PyData.depth]
  have : PyData.depthKv (m.map fun p => ((.str p.1 : PyData), (.str p.2 : PyData))) ≤ 1 := by
    induction m with
    | nil => simp [PyData.depthKv]
    | cons p m ih => simp [PyData.depthKv, PyData.depth]; omega
  omega
theorem datM_len {m : List (Str × Str)} (h : ∀ p, p ∈ m → NmP p) (l : m.length ≤ 100) : (datM m).shown.length + 64 ≤ sizeLine := by
  unfold datM
  simp only [PyData.shown]
  refine Nat.le_trans (Nat.add_le_add_right (dictText_len_le _) _) ?_
  have key : ∀ m : List (Str × Str), (∀ p, p ∈ m → NmP p) → ((PyData.shownKv (m.map fun p => ((.str p.1 : PyData), (.str p.2 : PyData)))).map (·.length)).sum ≤ 166 * m.length ∧ (PyData.shownKv (m.map fun p => ((.str p.1 : PyData), (.str p.2 : PyData)))).length = m.length := by
    intro m
    induction m with
    | nil => intro _; exact ⟨Nat.le_refl _, rfl⟩
    | cons p m ih =>
      intro h
      obtain ⟨a, b⟩ := ih fun q hq => h q (List.mem_cons_of_mem _ hq)
      obtain ⟨h1, h2⟩ := h p List.mem_cons_self
      have l1 := (nm_ok h1).2.1
      have l2 := (nm_ok h2).2.1
      have e : (PyData.shown (.str p.1) ++ ": " ++ PyData.shown (.str p.2)).length = (reprText p.1).length + 2 + (reprText p.2).length := by
        rw [strLen_append, strLen_append]
        simp only [PyData.shown]
        rfl
      rw [List.map_cons, PyData.shownKv, List.map_cons, List.sum_cons, List.length_cons, List.length_cons, e, b]
      exact ⟨by omega, rfl⟩
  obtain ⟨a, b⟩ := key m h
  rw [b]
  have : (166 * 100 + 2 * 100 + 3 + 64) ≤ sizeLine := by decide
  omega
mutual
theorem ren_depth (f : Str → Str) : ∀ d : PyData, (renD f d).depth ≤ d.depth
  | .tuple (x :: ds) => by
    have := ren_depths f ds
    cases x <;> (simp only [renD, PyData.depth, PyData.depthAll]; omega)
  | .tuple [] => by simp [renD]
  | .none => by simp [renD]
  | .bool _ => by simp [renD]
  | .int _ => by simp [renD]
  | .str _ => by simp [renD]
  | .list _ => by simp [renD]
  | .dict _ => by simp [renD]
theorem ren_depths (f : Str → Str) : ∀ ds : List PyData, PyData.depthAll (renAll f ds) ≤ PyData.depthAll ds
  | [] => Nat.le_refl _
  | d :: ds => by
    have := ren_depth f d
    have := ren_depths f ds
    rw [renAll, PyData.depthAll, PyData.depthAll]
    omega
end
end K03
/-! The law of k03: renamed. -/
namespace Kx
open PySem PySem.Spec PyProof.Rows L2
/-- a def by its body, where nothing around shows itself, its code object told -/
theorem okGC {P : Program} {w : World} {K : PySem.W.Frag} {mg : Str → Option Value} {base : Heap} {x qual : Str} {st : Stmt} {f : Addr} {fd : FuncData} {N ps : List Str} {k : Nat} {sp : Sp} (F : Fun K x qual st f fd) (S : FnScope N ps (defScope st)) (len : ∀ vs H Q E, sp vs H Q E → vs.length = ps.length)
    (hbody : ∀ (cdv : Value) (A : Around) (outer : List Env) (s : Shared) (H : Hp) (vs : List V) (Q : VK) (E : XK), fd.code = cdv → Calm (A.deeper (envOfC qual (defScope st) s.heap.objs.size f cdv)) → Room k (A.deeper (envOfC qual (defScope st) s.heap.objs.size f cdv)) → sp vs H Q E →
      ∃ t, PSs (cxOf CX0 P w K mg base N qual (defScope st) f cdv A outer s H E).nox (defBody st) t ∧ t { nx := fun _ H' => Q .non H', rt := Q } (start N vs) H) : FnG P w K mg base (k + 1) f fd ps sp := by
  obtain ⟨oc, od, kV, doc, pm, an, cdv, ct, osl, rfl, lk, hcd⟩ := F.ex
  constructor
  · exact len
  intro A outer s H args us vs Q E cm hr e0 hb r hsp
  have nl := len _ _ _ _ hsp
  have kin : K.In s.heap := e0.mod.kin.keeps fun b o e => (e0.bs b o e).1
  have lim : s.heap.NoLimit := e0.mod.nolimit.keeps fun b o e => (e0.bs b o e).1
  refine codeAny_call_function hr.depth (kin _ _ lk) rfl S.co S.gen rfl (PySem.W.codeRec_of kin hcd) (hb _ _ _ _ (wpAny_newFunctionEnv_cells S.kind ?_ ?_))
  · rintro ⟨n, v⟩ hy
    rcases S.par n (List.of_mem_zip hy).1 with q | q
    · exact .inl q
    · exact .inr ⟨q, PySem.W.cellsFrom_some _ _ _ (.inl q)⟩
  rintro env rfl s1 x
  refine ⟨lim.keeps x.toInCall.keep, codeAny_func ?_⟩
  obtain ⟨t, ht, hq⟩ := hbody cdv A outer s H vs Q E rfl (calm_deeper cm) (hr.deeper _) hsp
  have J0 := inv_start (CX := CX0) (f := f) (cd := cdv) (E := E) (qual := qual) S hr.hd e0 nl r x
  refine wpAny_mono (ht.nox.run [] s1 _ H _ J0 hq) ?_ fun e s' hs => hs
  intro fl s' hs
  rcases fl with _ | _ | _ | u
  · obtain ⟨σ', H', J, q⟩ := hs
    exact ⟨.non, H', J.os, J.bare, J.base, J.hok, rfl, q⟩
  · obtain ⟨_, _, _, q⟩ := hs
    exact q.elim
  · obtain ⟨_, _, _, q⟩ := hs
    exact q.elim
  · obtain ⟨v, σ', H', J, rv, q⟩ := hs
    exact ⟨v, H', J.os, J.bare, J.base, J.hok, rv, q⟩
end Kx
namespace K03
open PySem PySem.Spec PyProof.Rows L2 Kx LamX
section
variable {P : Program} {w : World} {K : PySem.W.Frag} {mg : Str → Option Value} {base : Heap}
theorem due_congr {m1 m2 : List (Str × Str)} (h : nmOf m1 = nmOf m2) (d : PyData) : dueN m1 d = dueN m2 d := by
  have e : Ap m1 d ↔ Ap m2 d := by
    unfold Ap
    rw [h]
  unfold dueN
  by_cases a : Ap m1 d
  · rw [if_pos a, if_pos (e.mp a), h]
  · rw [if_neg a, if_neg fun z => a (e.mpr z)]
theorem nm_abf (x y z : Str) : nmOf [("f", z), ("b", y), ("a", x)] = nmOf [("a", x), ("b", y), ("f", z)] := by
  funext s
  unfold nmOf look
  by_cases h1 : s = "a"
  · subst h1
    rfl
  · by_cases h2 : s = "b"
    · subst h2
      rfl
    · by_cases h3 : s = "f"
      · subst h3
        rfl
      · have a1 : decide (("a" : Str) = s) = false := decide_eq_false fun e => h1 e.symm
        have a2 : decide (("b" : Str) = s) = false := decide_eq_false fun e => h2 e.symm
        have a3 : decide (("f" : Str) = s) = false := decide_eq_false fun e => h3 e.symm
        simp [List.find?, a1, a2, a3]
theorem mergeS_new : ∀ (l a : List (Str × Str)), ((a ++ l).map Prod.fst).Nodup → mergeS a l = a ++ l
  | [], a, _ => by simp [mergeS]
  | p :: l, a, h => by
    have hp : (a.any fun q => decide (q.1 = p.1)) = false := by
      rw [List.any_eq_false]
      intro q hq e
      have e := of_decide_eq_true e
      rw [List.map_append, List.nodup_append] at h
      exact h.2.2 _ (List.mem_map.mpr ⟨q, hq, rfl⟩) _ (List.mem_map.mpr ⟨p, List.mem_cons_self, rfl⟩) e
    show mergeS (setS a p.1 p.2) l = _
    rw [show setS a p.1 p.2 = a ++ [p] by unfold setS; rw [hp]; rfl, mergeS_new l (a ++ [p]) (by simpa using h)]
    simp
theorem ren_plain {m : List (Str × Str)} (hm : ∀ p, p ∈ m → NmP p) {d : PyData} (f : formedD d = true) : Plain (dueN m d) ∧ (dueN m d).depth ≤ d.depth + 1 := by
  unfold dueN
  split
  · exact ⟨plain_formed _ (ren_formed _ (fun x hx => nmOf_nm (fun x y h => hm (x, y) h) hx) d f), Nat.le_succ_of_le (ren_depth _ d)⟩
  · exact ⟨⟨by decide +kernel, rfl, by decide +kernel, rfl, rfl⟩, by simp [PyData.depth]⟩
def spRnr (K : PySem.W.Frag) (tabs : List (Addr × Str)) : Sp := fun vs H Q _ => ∃ (a : Addr) (n : Nat) (x : V) (d : PyData), vs = [.ref a, x] ∧ Dice H a n ∧ n + 250 < cap ∧ Dx K H x d ∧ termD d = true ∧ d.depth ≤ 4 ∧ Tabs tabs H ∧
  ∀ H', Bt a H H' → Dice H' a (n + 250) → Tabs tabs H' → Q (.bl true) H'
theorem ok_rnr (T : Tx K mg) (Y : Ty T) (TB : TabB base mg Y.cN Y.PN) : FnG P w K mg base 12 T.a_law_renamed_right T.d_law_renamed_right ["dice", "term"] (spRnr K Y.T) := by
  have nd := sc__law_renamed_right.nd
  have Grg := ok_rg (P := P) (w := w) (base := base) T
  have Gdn := ok_dn (P := P) (w := w) (base := base) T 4 (by decide)
  have Grb := ok_rb (P := P) (w := w) (base := base) T
  have Gr3 := ok_ren3 (P := P) (w := w) (base := base) T
  refine okGC T.f_law_renamed_right sc__law_renamed_right (fun vs H Q E h => ?_) (fun cdv A outer s H vs Q E ecd cm hr h => ?_)
  · obtain ⟨a, n, x, d, rfl, _⟩ := h
    rfl
  · obtain ⟨a, n, x, d, rfl, hd, hn, dx, td, dpt, tt, q⟩ := h
    have hu := hu_of hr
    have ec : cdv = .ref Y.cN := by rw [← ecd, Y.codeN]
    refine ⟨_, (pss_cons (ps_set (i := 6) nd rfl (.inr rfl) (pe_call Grg (hr.mono (by omega)) (by rfl) T.g_law_renaming T.f_law_renaming.kp T.n_law_renaming .nil pass0 (pa_cons (pv 0) (pa_cons (pv 1) pa_nil))))
      (pss_cons (ps_par (i := 2) (j := 3) (by rfl) nd rfl rfl (by decide) rfl rfl (pa_cons (pe_callB (cr_repr cm hr.units) (by rfl) T.b_repr (by decide +kernel) (pa_cons (pv 6) pa_nil)) (pa_cons (pe_call Gdn (hr.mono (by omega)) (by rfl) T.g_law_due_names T.f_law_due_names.kp T.n_law_due_names .nil pass0 (pa_cons (pv 1) (pa_cons (pv 6) pa_nil))) pa_nil)) (by rfl))
      (C8.pss_cut (ps_if (PW.pt (pw_or (pt_cmpR (op_neF (room200 hr)) (pe_told T (k := 9) (by rfl) TB ec Y.hN.1 Y.hN.2 (hr.mono (by omega)) (lamS_by (sc := defScope s__law_renamed_right) (by decide +kernel)) rfl (fun _ _ _ _ _ => rfl) (fun A2 outer2 s2 H2 E2 f2 c2 hr2 => pe_call Grb (hr2.mono (by omega)) (by rfl) T.grenamed_by T.frenamed_by.kp T.nrenamed_by .nil (passes_call (takes_of rfl rfl rfl rfl) (fun _ _ _ _ h => h)) (pa_cons (pv 1) (pa_cons (pv 6) pa_nil)))) (pv 3) (nomark _)) (pw_or1 (pt_cmpR op_ne (pe_callB (cr_repr cm hr.units) (by rfl) T.b_repr (by decide +kernel) (pa_cons (pv 6) pa_nil)) (pv 2) (nomark _))))) (pss_one (ps_ret pe_bl)) pss_nil)
      (pss_cons (ps_asg (pe_lc (own := [("name", 10)]) (g := (gName 10)) (tt := tYes) (by rfl) nd (pi_tup (pe_tup (pa_cons pe_str (pa_cons pe_str (pa_cons pe_str pa_nil))))) (blkOk_by (own := [("name", 10)]) (N := N__law_renamed_right) (sc := defScope s__law_renamed_right) (by decide +kernel)) (fun _ _ _ _ _ => pg_name (i := 10) nd rfl (.inl rfl)) (fun _ _ _ _ _ => pts_nil) (fun _ _ _ _ _ => (pe_dget2 hu (pv 6) (pv 10) (pv 10) ⟨by rfl, by rfl, by rfl, by rfl⟩))) (pg_unl rfl (pgs_cons (pg_name (i := 7) nd rfl (.inr rfl)) (pgs_cons (pg_name (i := 9) nd rfl (.inr rfl)) (pgs_cons (pg_name (i := 8) nd rfl (.inr rfl)) pgs_nil)))))
      (pss_cons (ps_set (i := 4) nd rfl (.inl rfl) (pe_disp (pps_cons pe_str (pv 7) (pps_cons pe_str (pv 9) (pps_cons pe_str (pv 8) pps_nil))) (by rfl) (by rfl) (fun z => by cases z) (by decide)))
      (C8.pss_cut (ps_set (i := 5) nd rfl (.inl rfl) (pe_told T (k := 9) (by rfl) TB ec Y.hN.1 Y.hN.2 (hr.mono (by omega)) (lamS_by (sc := defScope s__law_renamed_right) (by decide +kernel)) rfl (fun _ _ _ _ _ => rfl) (fun A2 outer2 s2 H2 E2 f2 c2 hr2 => pe_callKw Gr3 (hr2.mono (by omega)) (by rfl) T.grenamed T.frenamed.kp (passes_call (takes_of rfl rfl rfl rfl) (fun _ _ _ _ h => h)) (pa_cons (pv 1) pa_nil) (pk_cons (pv 8) (pk_cons (pv 9) (pk_cons (pv 7) pk_nil))))))
      (pss_one (ps_ret (pe_cmpR (op_eqF (room200 hr)) (pv 5) (pe_call Gdn (hr.mono (by omega)) (by rfl) T.g_law_due_names T.f_law_due_names.kp T.n_law_due_names .nil pass0 (pa_cons (pv 1) (pa_cons (pv 4) pa_nil))) (nomark _)))))))))), ?_⟩
    have fd := termD_formed td
    have lp4 : (preD d).length ≤ 40 := pre_most 4 d fd dpt
    have pd := plain_formed d fd
    have szd := sz_pre d fd
    refine ⟨_, rfl, _, rfl, a, n, x, d, rfl, hd, hn, dx, fd, dpt, fun p m H1 bt1 d1 np npa em hm nd2 lm => ?_⟩
    have t1 := tabs_but tt bt1 hd
    have dx1 := (Bt.but bt1).dx hd fd dx
    have hm' : ∀ x y, (x, y) ∈ m → isNm x = true ∧ isNm y = true := fun x y h => hm (x, y) h
    obtain ⟨pdue, ddue⟩ := ren_plain hm fd
    refine ⟨_, rfl, .ref p, datM m, rfl, datM_dx em, datM_sw m, fun _ => datM_nl m, datM_dp m, datM_len hm lm, _, rfl, _, rfl, x, p, d, m, rfl, dx1, .inl em, hm', fd, dpt, by omega, fun due H2 s2 dv2 => ⟨_, _, rfl, ?_⟩⟩
    have t2 := t1.ext s2
    have d2 := d1.up s2
    have dx2 := dx1.up s2
    have em2 := s2 _ _ em
    refine ⟨fun σ G => Bt a H G ∧ Dice G a (n + 250) ∧ Tabs Y.T G ∧ G p = some (.dK (strD m)) ∧ ∃ y2 y3 y4 y5 y7 y8 y9 y10, σ = [some (.ref a), some x, y2, y3, y4, y5, some (.ref p), y7, y8, y9, y10], ?_, ?_⟩
    · refine ⟨t2, fun H3 xn t3 => ?_⟩
      have d3 := dice_ext d2 xn
      have dx3 := (Bt.ext xn).dx d2 fd dx2
      have em3 := xn _ _ em2 (fun ps e => nomatch e)
      have b3 : Bt a H H3 := (Bt.but bt1).trans ((Bt.same s2).trans (.ext xn))
      have fin : ∀ (v : V) (H4 : Hp), Same H3 H4 → Dx K H4 v (dueN m d) → Dx K H4 due (dueN m d) := fun v H4 s4 _ => by
        by_cases ap : Ap m d
        · have e : dueN m d = renD (nmOf m) d := if_pos ap
          rw [e] at dv2 ⊢
          exact ((Bt.ext xn).dx d2 (ren_formed _ (fun x hx => nmOf_nm hm' hx) d fd) dv2).up s4
        · have e : dueN m d = .str "operation" := if_neg ap
          rw [e] at dv2 ⊢
          cases dv2
          exact .str _
      refine ⟨_, rfl, _, rfl, x, p, d, m, rfl, ⟨dx3, pd.short, by omega⟩, td, by omega, em3, hm', nd2, by omega, fun ap v H4 s4 dv => ?_, fun ap H4 s4 => ⟨false, Y.eOT, fun z => (nomatch z), fun _ => ⟨true, T.eInvalidOperation, fun _ => ?_, fun z => (nomatch z)⟩⟩⟩
      · have e : dueN m d = renD (nmOf m) d := if_pos ap
        rw [← e] at dv
        have dv4 := fin v H4 s4 dv
        refine ⟨_, rfl, dueN m d, dueN m d, Dx.dp pdue.hd dv, Dx.dp pdue.hd dv4, pdue.lay, pdue.lay, by omega, _, rfl, ?_⟩
        rw [SeqAt.eqv_refl _ pdue.lay]
        have em4 := s4 _ _ em3
        refine iteF ⟨_, rfl, .ref p, datM m, rfl, datM_dx em4, datM_sw m, fun _ => datM_nl m, datM_dp m, datM_len hm lm, _, rfl, rfl, _, rfl, ?_⟩
        rw [decide_eq_true rfl]
        exact iteF ⟨b3.trans (.same s4), d3.up s4, t3.ext s4, em4, _, _, _, _, _, _, _, _, rfl⟩
      · have e : dueN m d = .str "operation" := if_neg ap
        have dv : Dx K H4 (.str "operation") (dueN m d) := by rw [e]; exact .str _
        have dv4 := fin (.str "operation") H4 s4 dv
        refine ⟨_, rfl, dueN m d, dueN m d, Dx.dp pdue.hd dv, Dx.dp pdue.hd dv4, pdue.lay, pdue.lay, by omega, _, rfl, ?_⟩
        rw [SeqAt.eqv_refl _ pdue.lay]
        have em4 := s4 _ _ em3
        refine iteF ⟨_, rfl, .ref p, datM m, rfl, datM_dx em4, datM_sw m, fun _ => datM_nl m, datM_dp m, datM_len hm lm, _, rfl, rfl, _, rfl, ?_⟩
        rw [decide_eq_true rfl]
        exact iteF ⟨b3.trans (.same s4), d3.up s4, t3.ext s4, em4, _, _, _, _, _, _, _, _, rfl⟩
    · rintro σ5 H5 ⟨b5, d5, t5, em5, y2, y3, y4, y5, y7, y8, y9, y10, rfl⟩
      have nx1 := nmOf_nm hm' (show isNm "a" = true by decide +kernel)
      have nx2 := nmOf_nm hm' (show isNm "b" = true by decide +kernel)
      have nx3 := nmOf_nm hm' (show isNm "f" = true by decide +kernel)
      have dx5 := b5.dx hd fd dx
      refine ⟨by show 3 ≤ sizeLine; decide, fun tt2 ntt => ⟨tt2, rfl, ⟨_, SqT.of upd_same⟩, fun D nD => ?_⟩⟩
      have sT := same_put (o := .tup [.str "a", .str "b", .str "f"]) ntt
      have eT : (upd H5 tt2 (.tup [.str "a", .str "b", .str "f"])) tt2 = some (.tup [.str "a", .str "b", .str "f"]) := upd_same
      generalize upd H5 tt2 (.tup [.str "a", .str "b", .str "f"]) = H6 at sT eT nD ⊢
      have em6 := sT _ _ em5
      have sD := same_put (o := .lst []) nD
      refine lc_tup (K := K) (a := tt2) (xs := [.str "a", .str "b", .str "f"]) (fun i G => Same H6 G ∧ G D = some (.lst (((([("a" : Str), "b", "f"]).take i).map (nmOf m)).map V.str)))
        ⟨same_new nD, by rw [upd_same]; rfl⟩ (fun i G _ h => SqT.of (h.1 _ _ eT)) ?_ ?_
      · rintro i y G hi ⟨sm, eD⟩
        obtain ⟨z, rfl, ez, li⟩ : ∃ z, y = V.str z ∧ ([("a" : Str), "b", "f"])[i]? = some z ∧ i < 3 := by
          match i, hi with
          | 0, hi =>
            cases hi
            exact ⟨"a", rfl, rfl, by decide⟩
          | 1, hi =>
            cases hi
            exact ⟨"b", rfl, rfl, by decide⟩
          | 2, hi =>
            cases hi
            exact ⟨"f", rfl, rfl, by decide⟩
        have emG : Rd G p (.dK (strD m)) := .inl (sm _ _ em6)
        refine ⟨rfl, (iteT (B := False) ?_ : if true = true then _ else False)⟩
        refine ⟨_, rfl, p, rfl, .inl ⟨_, emG⟩, _, rfl, _, rfl, _, .inl ⟨strD m, .inr z, emG, rfl, rfl⟩, _, eD, ?_, fun b o hb => ?_, ?_⟩
        · rw [List.length_map, List.length_map, List.length_take]
          exact small1000 (by omega)
        · rw [upd_ne (ne_of_none hb nD)]
          exact sm b o hb
        · rw [upd_same, val_strD, look_getD, List.take_add_one, ez, Option.toList_some, List.map_append, List.map_append]
          rfl
      · rintro H7 ⟨s7, eD⟩
        have s57 := sT.trans s7
        refine ⟨D, _, rfl, .inl (.inl eD), rfl, _, _, rfl, _, _, rfl, _, _, rfl, rfl, ?_⟩
        -- few
        refine fun p2 np2 => ⟨_, rfl, _, rfl, _, rfl, upd_same, strD [("a", nmOf m "a"), ("b", nmOf m "b"), ("f", nmOf m "f")], rfl, by show 3 ≤ 15; decide, ?_⟩
        rw [show mergeK [] (strD [("a", nmOf m "a"), ("b", nmOf m "b"), ("f", nmOf m "f")]) = strD [("a", nmOf m "a"), ("b", nmOf m "b"), ("f", nmOf m "f")] from (strD_merge _ []).trans (by rw [mergeS_new _ _ (by simp; decide)]; rfl)]
        have efw : nmOf [("f", nmOf m "f"), ("b", nmOf m "b"), ("a", nmOf m "a")] = nmOf [("a", nmOf m "a"), ("b", nmOf m "b"), ("f", nmOf m "f")] := nm_abf _ _ _
        have nfw : ∀ p, p ∈ [(("a" : Str), nmOf m "a"), ("b", nmOf m "b"), ("f", nmOf m "f")] → NmP p := fun p hp => by
          rcases List.mem_cons.mp hp with e | hp
          · rw [e]; exact ⟨by show isNm "a" = true; decide +kernel, nx1⟩
          rcases List.mem_cons.mp hp with e | hp
          · rw [e]; exact ⟨by show isNm "b" = true; decide +kernel, nx2⟩
          · rw [List.mem_singleton.mp hp]; exact ⟨by show isNm "f" = true; decide +kernel, nx3⟩
        have nkw : ∀ x y, (x, y) ∈ [(("f" : Str), nmOf m "f"), ("b", nmOf m "b"), ("a", nmOf m "a")] → isNm x = true ∧ isNm y = true := fun x y hp => nfw (x, y) (by
          rcases List.mem_cons.mp hp with e | hp
          · rw [e]; simp
          rcases List.mem_cons.mp hp with e | hp
          · rw [e]; simp
          · rw [List.mem_singleton.mp hp]; simp)
        obtain ⟨fw, hfw⟩ : ∃ fw, fw = [(("a" : Str), nmOf m "a"), ("b", nmOf m "b"), ("f", nmOf m "f")] := ⟨_, rfl⟩
        have lfw : fw.length = 3 := by rw [hfw]; rfl
        rw [← hfw] at efw nfw ⊢
        have edue : dueN [("f", nmOf m "f"), ("b", nmOf m "b"), ("a", nmOf m "a")] d = dueN fw d := due_congr efw d
        obtain ⟨pf, df⟩ := ren_plain nfw fd
        have s8 : Same H7 (upd (upd H7 p2 (.dK [])) p2 (.dK (strD fw))) := fun b o h => by
          rw [upd_ne (ne_of_none h np2), upd_ne (ne_of_none h np2)]
          exact h
        have e8 : (upd (upd H7 p2 (.dK [])) p2 (.dK (strD fw))) p2 = some (.dK (strD fw)) := upd_same
        generalize upd (upd H7 p2 (.dK [])) p2 (.dK (strD fw)) = H8 at s8 e8 ⊢
        have s58 := s57.trans s8
        have t8 := t5.ext s58
        have d8 := d5.up s58
        have dx8 := dx5.up s58
        refine ⟨fun σ G => Bt a H G ∧ Dice G a (n + 250) ∧ Tabs Y.T G ∧ G p2 = some (.dK (strD fw)) ∧ ∃ v y0 y2 y3 y6 y7 y8 y9 y10, Dx K G v (dueN fw d) ∧ σ = [y0, some x, y2, y3, some (.ref p2), some v, y6, y7, y8, y9, y10], ?_, ?_⟩
        · refine ⟨t8, fun H9 xn t9 => ?_⟩
          have d9 := dice_ext d8 xn
          have dx9 := (Bt.ext xn).dx d8 fd dx8
          have e9 := xn _ _ e8 (fun ps e => nomatch e)
          have b9 : Bt a H H9 := b5.trans ((Bt.same s58).trans (.ext xn))
          refine ⟨_, rfl, _, rfl, _, rfl, _, rfl, x, rfl, rfl, fun dd ndd => ⟨x, dd, d, [("f", nmOf m "f"), ("b", nmOf m "b"), ("a", nmOf m "a")], rfl, ⟨dx9.up (same_put ndd), pd.short, by omega⟩, td, by omega, by rw [upd_same]; rfl, nkw, by simp; decide, by show 3 ≤ 1000; decide, fun ap v G sG dv => ?_, fun ap G sG => ⟨false, Y.eOT, fun z => (nomatch z), fun _ => ⟨true, T.eInvalidOperation, fun _ => ?_, fun z => (nomatch z)⟩⟩⟩⟩
          · have e : dueN [("f", nmOf m "f"), ("b", nmOf m "b"), ("a", nmOf m "a")] d = renD (nmOf [("f", nmOf m "f"), ("b", nmOf m "b"), ("a", nmOf m "a")]) d := if_pos ap
            rw [← e, edue] at dv
            have sg := (same_put ndd).trans sG
            exact ⟨b9.trans (.same sg), d9.up sg, t9.ext sg, sg _ _ e9, v, _, _, _, _, _, _, _, _, dv, rfl⟩
          · have e : dueN [("f", nmOf m "f"), ("b", nmOf m "b"), ("a", nmOf m "a")] d = .str "operation" := if_neg ap
            rw [edue] at e
            have sg := (same_put ndd).trans sG
            exact ⟨b9.trans (.same sg), d9.up sg, t9.ext sg, sg _ _ e9, _, _, _, _, _, _, _, _, _, by rw [e]; exact .str _, rfl⟩
        · rintro σ9 H9 ⟨b9, d9, t9, e9, v, y0, z2, z3, y6, z7, z8, z9, z10, dv, rfl⟩
          have dx9 := b9.dx hd fd dx
          refine ⟨_, rfl, _, rfl, _, rfl, x, p2, d, fw, rfl, dx9, .inl e9, fun x y h => nfw (x, y) h, fd, dpt, by omega, fun due2 G sG dv2 => ⟨dueN fw d, dueN fw d, Dx.dp pf.hd (dv.up sG), Dx.dp pf.hd dv2, pf.lay, pf.lay, by omega, ?_⟩⟩
          rw [SeqAt.eqv_refl _ pf.lay]
          exact q G (b9.trans (.same sG)) (d9.up sG) (t9.ext sG)
end
end K03
/-! Displays at given locals; a text times a number. -/
namespace Kx
open PySem PySem.Spec PyProof.Rows L2
/-- te makes d, with these locals -/
def MkAt (K : PySem.W.Frag) (σ : L2.St) (te : TE) (d : PyData) : Prop := ∀ (H : Hp) (Q : VK), (∀ x H', Same H H' → Dx K H' x d → Q x H') → te σ H Q
def MkAts (K : PySem.W.Frag) (σ : L2.St) (ta : TA) (ds : List PyData) : Prop := ∀ (H : Hp) (Q : List V → Hp → Prop), (∀ xs H', Same H H' → DxAll K H' xs ds → Q xs H') → ta σ H Q
section
variable {K : PySem.W.Frag} {σ : L2.St} {te : TE} {ta : TA} {d : PyData} {ds : List PyData}
theorem ma_var {i : Nat} {x : Str} (h : σ[i]? = some (some (.str x))) : MkAt K σ (tVar i) (.str x) := fun H Q q => ⟨_, h, q _ H (Same.refl H) (.str x)⟩
theorem ma_nil : MkAts K σ tNil [] := fun H Q q => q _ H (Same.refl H) .nil
theorem ma_cons (h1 : MkAt K σ te d) (h2 : MkAts K σ ta ds) : MkAts K σ (tCons te ta) (d :: ds) := fun H Q q =>
  h1 H _ fun x H1 s1 d1 => h2 H1 _ fun xs H2 s2 d2 => q _ H2 (s1.trans s2) (.cons (d1.up s2) d2)
theorem ma_tup (h : MkAts K σ ta ds) (few : ds.length ≤ sizeLine) : MkAt K σ (tTup ta) (.tuple ds) := fun H Q q =>
  h H _ fun xs H1 s1 d1 => ⟨by rw [d1.length]; exact few, fun p np => q _ _ (s1.trans (same_put np)) (.tup upd_same (d1.up (same_put np)))⟩
theorem ma_lst (h : MkAts K σ ta ds) (few : ds.length ≤ sizeLine) : MkAt K σ (tLst ta) (.list ds) := fun H Q q =>
  h H _ fun xs H1 s1 d1 => ⟨by rw [d1.length]; exact few, fun p np => q _ _ (s1.trans (same_put np)) (.lst upd_same (d1.up (same_put np)))⟩
theorem asg_at {H : Hp} {j : Nat} {rest : TS} {D : Ends} (m : MkAt K σ te d) (q : ∀ x H', Same H H' → Dx K H' x d → rest D (σ.set j (some x)) H') : tSeq (tAsg te (gName j)) rest D σ H := m H _ q
theorem ma_str (x : Str) : MkAt K σ (tC (.str x)) (.str x) := fun H Q q => q _ H (Same.refl H) (.str x)
theorem ma_int (i : Int) : MkAt K σ (tC (.int i)) (.int i) := fun H Q q => q _ H (Same.refl H) (.int i)
theorem ma_bl (b : Bool) : MkAt K σ (tC (.bl b)) (.bool b) := fun H Q q => q _ H (Same.refl H) (.bl b)
end
section
variable {X : Cx}
/-- a text times a number -/
def rMulS : R2 := fun x y H Q => ∃ (z : Str) (n : Int), x = .str z ∧ y = .int n ∧ MulOk z n ∧ Q (.str (Txt.mul z n)) H
theorem op_mulS : OpR X (binaryOp .Mult) rMulS := by
  intro pins s σ H x y v u Q I rx ry h
  obtain ⟨z, n, rfl, rfl, ok, q⟩ := h
  obtain ⟨t, rfl⟩ := rx
  obtain ⟨t2, rfl⟩ := ry
  exact PySem.SB.mul ok fun t' k => ⟨.str _, H, I.tok k, ⟨_, rfl⟩, q⟩
end
end Kx
/-! Displays and calls over known data. -/
namespace K03
open PySem PySem.Spec PyProof.Rows L2 Kx
/-- te makes d, from the heap H0 on -/
def MkH (K : PySem.W.Frag) (σ : L2.St) (H0 : Hp) (te : TE) (d : PyData) : Prop := ∀ (H : Hp) (Q : VK), Same H0 H → (∀ x H', Same H H' → Dx K H' x d → Q x H') → te σ H Q
def MkHs (K : PySem.W.Frag) (σ : L2.St) (H0 : Hp) (ta : TA) (ds : List PyData) : Prop := ∀ (H : Hp) (Q : List V → Hp → Prop), Same H0 H → (∀ xs H', Same H H' → DxAll K H' xs ds → Q xs H') → ta σ H Q
section
variable {K : PySem.W.Frag} {σ : L2.St} {H0 : Hp} {te t1 t2 t3 : TE} {ta : TA} {d e c : PyData} {ds : List PyData} {C : Addr} {E : XK}
theorem mh_var {i : Nat} {x : V} (h : σ[i]? = some (some x)) (dx : Dx K H0 x d) : MkH K σ H0 (tVar i) d := fun H Q s q => ⟨_, h, q _ H (Same.refl H) (dx.up s)⟩
theorem mh_str (x : Str) : MkH K σ H0 (tC (.str x)) (.str x) := fun H Q _ q => q _ H (Same.refl H) (.str x)
theorem mh_nil : MkHs K σ H0 tNil [] := fun H Q _ q => q _ H (Same.refl H) .nil
theorem mh_cons (h1 : MkH K σ H0 te d) (h2 : MkHs K σ H0 ta ds) : MkHs K σ H0 (tCons te ta) (d :: ds) := fun H Q s q =>
  h1 H _ s fun x H1 s1 d1 => h2 H1 _ (s.trans s1) fun xs H2 s2 d2 => q _ H2 (s1.trans s2) (.cons (d1.up s2) d2)
theorem mh_tup (h : MkHs K σ H0 ta ds) (few : ds.length ≤ 100) : MkH K σ H0 (tTup ta) (.tuple ds) := fun H Q s q =>
  h H _ s fun xs H1 s1 d1 => ⟨by rw [d1.length]; exact Nat.le_of_lt (small1000 (by omega)), fun p np => q _ _ (s1.trans (same_put np)) (.tup upd_same (d1.up (same_put np)))⟩
theorem mh_lst (h : MkHs K σ H0 ta ds) (few : ds.length ≤ 100) : MkH K σ H0 (tLst ta) (.list ds) := fun H Q s q =>
  h H _ s fun xs H1 s1 d1 => ⟨by rw [d1.length]; exact Nat.le_of_lt (small1000 (by omega)), fun p np => q _ _ (s1.trans (same_put np)) (.lst upd_same (d1.up (same_put np)))⟩
theorem asg_mh {j : Nat} {rest : TS} {D : Ends} (m : MkH K σ H0 te d) (q : ∀ x H', Same H0 H' → Dx K H' x d → rest D (σ.set j (some x)) H') : tSeq (tAsg te (gName j)) rest D σ H0 := m H0 _ (Same.refl H0) q
theorem asg1_mh {j : Nat} {D : Ends} (m : MkH K σ H0 te d) (q : ∀ x H', Same H0 H' → Dx K H' x d → D.nx (σ.set j (some x)) H') : tAsg te (gName j) D σ H0 := m H0 _ (Same.refl H0) q
def RepOk (d e c : PyData) : Bool := termD d && termD e && termD c && termD (putD e c d) && decide ((preD d).length ≤ 400) && decide ((preD e).length ≤ 400) && decide ((preD c).length ≤ 400) && decide ((preD (putD e c d)).length ≤ 400)
theorem dz_of {H : Hp} {x : V} (h : Dx K H x d) (t : termD d = true) (l : (preD d).length ≤ 400) : Dz K H x d := ⟨h, (plain_formed d (termD_formed t)).short, by rw [sz_pre d (termD_formed t)]; omega⟩
theorem mh_rep (h1 : MkH K σ H0 t1 d) (h2 : MkH K σ H0 t2 e) (h3 : MkH K σ H0 t3 c) (ok : RepOk d e c = true) : MkH K σ H0 (tCall (spRep K C) [] E (tCons t1 (tCons t2 (tCons t3 tNil)))) (putD e c d) := fun H Q s q => by
  simp only [RepOk, Bool.and_eq_true, decide_eq_true_eq] at ok
  obtain ⟨⟨⟨⟨⟨⟨⟨td, te⟩, tc⟩, tp⟩, l1⟩, l2⟩, l3⟩, l4⟩ := ok
  refine (mh_cons h1 (mh_cons h2 (mh_cons h3 mh_nil))) H _ s fun xs H1 s1 dxs => ?_
  cases dxs with
  | @cons x1 r1 _ _ d1 dxs =>
  cases dxs with
  | @cons x2 r2 _ _ d2 dxs =>
  cases dxs with
  | @cons x3 r3 _ _ d3 dxs =>
  cases dxs
  have fp := termD_formed tp
  exact ⟨x1, x2, x3, d, e, c, rfl, dz_of d1 td l1, dz_of d2 te l2, dz_of d3 tc l3, td, te, tc, by omega, (plain_formed _ fp).short, by rw [sz_pre _ fp]; omega, fun _ v H' s' dv => q v H' (s1.trans s') dv, fun z => by rw [tp] at z; cases z⟩
theorem tPairs_str {H : Hp} {Q : List (V × V) → Hp → Prop} : ∀ m : List (Str × Str), Q (m.map fun p => (V.str p.1, V.str p.2)) H → tPairs (m.map fun p => (tC (.str p.1), tC (.str p.2))) σ H Q
  | [], h => h
  | p :: m, h => tPairs_str (Q := fun ps H3 => Q ((V.str p.1, V.str p.2) :: ps) H3) m h
/-- a dict display of texts -/
theorem disp_str {H : Hp} {Q : VK} (m : List (Str × Str)) (nd : (m.map Prod.fst).Nodup) (l : m.length ≤ 15) (q : ∀ p H', Same H H' → H p = none → H' p = some (.dK (strD m)) → Q (.ref p) H') : tDisp (m.map fun p => (tC (.str p.1), tC (.str p.2))) σ H Q := fun p np => by
  refine tPairs_str m ⟨upd_same, strD m, by rw [strD, List.map_map]; rfl, by rw [strD, List.length_map]; exact l, ?_⟩
  rw [show mergeK [] (strD m) = strD m from (strD_merge _ []).trans (by rw [mergeS_new _ _ (by simpa using nd)]; rfl)]
  refine q p _ (fun b o h => ?_) np upd_same
  rw [upd_ne (ne_of_none h np), upd_ne (ne_of_none h np)]
  exact h
structure RbOk (m : List (Str × Str)) (d : PyData) : Prop where
  td : termD d = true
  ln : (preD d).length ≤ 400
  nm : ∀ x y, (x, y) ∈ m → isNm x = true ∧ isNm y = true
  nd : (m.map Prod.fst).Nodup
  fw : m.length ≤ 15
  ap : Ap m d
theorem rb_of {H : Hp} {Q : VK} {x : V} {p : Addr} {m : List (Str × Str)} (ok : RbOk m d) (dx : Dx K H x d) (hp : H p = some (.dK (strD m))) (q : ∀ v H', Same H H' → Dx K H' v (renD (nmOf m) d) → Q v H') : spRb K C [x, .ref p] H Q E :=
  ⟨x, p, d, m, rfl, dz_of dx ok.td ok.ln, ok.td, by rw [sz_pre d (termD_formed ok.td)]; have := ok.ln; omega, hp, ok.nm, ok.nd, by have := ok.fw; omega, fun _ v H' s' dv => q v H' s' dv, fun z => absurd ok.ap z⟩
theorem mh_rb (m : List (Str × Str)) (h1 : MkH K σ H0 t1 d) (ok : RbOk m d) : MkH K σ H0 (tCall (spRb K C) [] E (tCons t1 (tCons (tDisp (m.map fun p => (tC (.str p.1), tC (.str p.2)))) tNil))) (renD (nmOf m) d) := fun H Q s q =>
  h1 H _ s fun x H1 s1 dx => disp_str m ok.nd ok.fw fun p H2 s2 _ ep => rb_of ok (dx.up s2) ep fun v H' s' dv => q v H' (s1.trans (s2.trans s')) dv
theorem kwD_strD : ∀ m : List (Str × Str), kwD (m.map Prod.fst) (m.map fun p => V.str p.2) = strD m
  | [] => rfl
  | p :: m => by
    have ih := kwD_strD m
    rw [kwD] at ih ⊢
    rw [List.map_cons, List.map_cons, List.zip_cons_cons, List.map_cons, ih]
    rfl
theorem mh_kw (m : List (Str × Str)) {ks : List Str} {tk : TA} (hk : ∀ H Q, Q (m.map fun p => V.str p.2) H → tk σ H Q) (ek : m.map Prod.fst = ks) (h1 : MkH K σ H0 t1 d) (ok : RbOk m d) :
    MkH K σ H0 (fun σ H Q => tCons t1 tNil σ H fun vs H1 => tk σ H1 fun zs H2 => ∃ v, vs = [v] ∧ zs.length = ks.length ∧ ∀ d, H2 d = none → spRb K C [v, .ref d] (upd H2 d (.dK (kwD ks zs))) Q E) (renD (nmOf m) d) := fun H Q s q =>
  h1 H _ s fun x H1 s1 dx => hk H1 _ ⟨x, rfl, by rw [← ek, List.length_map, List.length_map], fun p np => rb_of ok (dx.up (same_put np)) (by
    rw [upd_same, ← ek]
    rw [kwD_strD]) fun v H' s' dv => q v H' (s1.trans ((same_put np).trans s')) dv⟩
end
mutual
theorem ren_id {f : Str → Str} : ∀ d : PyData, formedD d = true → (∀ r, r ∈ rowsD d → f r.1 = r.1) → renD f d = d
  | .tuple (x :: ds), h, hf => by
    rw [formedD, Bool.and_eq_true, Bool.and_eq_true] at h
    rw [rowsD] at hf
    have e2 := ren_ids ds h.2 fun r hr => hf r (List.mem_cons_of_mem _ hr)
    cases x with
    | str z =>
      have e1 : f z = z := hf _ List.mem_cons_self
      simp only [renD, e1, e2]
    | _ => cases h.1.2
  | .tuple [], h, _ => by cases h
  | .none, h, _ => by cases h
  | .bool _, h, _ => by cases h
  | .int _, h, _ => by cases h
  | .str _, h, _ => by cases h
  | .list _, h, _ => by cases h
  | .dict _, h, _ => by cases h
theorem ren_ids {f : Str → Str} : ∀ ds : List PyData, formedAll ds = true → (∀ r, r ∈ rowsAll ds → f r.1 = r.1) → renAll f ds = ds
  | [], _, _ => rfl
  | d :: ds, h, hf => by
    rw [formedAll, Bool.and_eq_true] at h
    rw [rowsAll] at hf
    rw [renAll, ren_id d h.1 fun r hr => hf r (List.mem_append_left _ hr), ren_ids ds h.2 fun r hr => hf r (List.mem_append_right _ hr)]
end
theorem ap_id {m : List (Str × Str)} {d : PyData} (h : ∀ r, r ∈ rowsD d → nmOf m r.1 = r.1) : Ap m d := by
  have key : ∀ z, z ∈ namesD d → nmOf m z = z := fun z hz => by
    obtain ⟨r, hr, e⟩ := List.mem_map.mp hz
    rw [← e]
    exact h r hr
  intro x hx y hy e
  rw [key x hx, key y hy] at e
  exact e
def ch : Nat → PyData
  | 0 => .tuple [.str "a"]
  | n + 1 => .tuple [.str "g", ch n]
theorem eq_of {d o : PyData} (h : (formedD d && PyData.eqv d o) = true) : d = o := by
  rw [Bool.and_eq_true] at h
  exact (eqv_iff h.1).mp h.2
theorem deep1 : RepOk (ch 39) (ch 0) (ch 39) = true := by decide +kernel
theorem deep2 : putD (ch 0) (ch 39) (ch 39) = ch 78 := eq_of (by decide +kernel)
theorem deep3 : RepOk (ch 78) (ch 39) (ch 0) = true := by decide +kernel
theorem deep4 : putD (ch 39) (ch 0) (ch 78) = ch 39 := eq_of (by decide +kernel)
theorem deep5 : PyData.eqv (renD (nmOf [("g", "w")]) (ch 78)) (ch 78) = false := by decide +kernel
theorem deep6 : (termD (ch 78) && decide ((preD (ch 78)).length ≤ 400) && decide ((ch 78).depth ≤ 190) && decide ((renD (nmOf [("g", "w")]) (ch 78)).depth ≤ 190)) = true := by decide +kernel
theorem deep7 : Ap [("g", "w")] (ch 78) := by decide +kernel
theorem okg : RbOk [("g", "w")] (ch 78) := ⟨by decide +kernel, by decide +kernel, fun x y h => by
  cases List.mem_singleton.mp h
  exact ⟨by decide +kernel, by decide +kernel⟩, by decide, by decide, deep7⟩
theorem f_w78 : formedD (renD (nmOf [("g", "w")]) (ch 78)) = true := by decide +kernel
def tA : PyData := .tuple [.str "a"]
def tB : PyData := .tuple [.str "b"]
def tW : PyData := .tuple [.str "f", .tuple [.str "term"], .tuple [.str "names"]]
def tW2 : PyData := .tuple [.str "f", .tuple [.str "old"], .tuple [.str "new"]]
def mW : List (Str × Str) := [("term", "old"), ("names", "new"), ("self", "w")]
theorem nm_all {m : List (Str × Str)} (h : (m.all fun p => isNm p.1 && isNm p.2) = true) : ∀ x y, (x, y) ∈ m → isNm x = true ∧ isNm y = true := fun x y hp => by
  have := List.all_eq_true.mp h _ hp
  simpa using this
theorem okW : RbOk mW tW := ⟨by decide +kernel, by decide +kernel, nm_all (by decide +kernel), by decide, by decide, by decide +kernel⟩
theorem eqW : renD (nmOf mW) tW = tW2 := eq_of (by decide +kernel)
theorem ok_tw : RepOk (ch 2) (ch 1) (ch 0) = true := by decide +kernel
theorem eq_tw : putD (ch 1) (ch 0) (ch 2) = ch 1 := eq_of (by decide +kernel)
def tO : PyData := .tuple [.str "f", tA, .tuple [.str "f", tA, tB]]
def tD : PyData := .tuple [.str "f", tA, tA]
theorem ok_o1 : RepOk tO tA tD = true := by decide +kernel
def e1 : PyData := .tuple [.str "f", tD, .tuple [.str "f", tD, tB]]
def e2 : PyData := .tuple [.str "f", tB, .tuple [.str "f", tB, tA]]
def e3 : PyData := .tuple [.str "a", .tuple [.str "f"], .tuple [.str "a", .tuple [.str "f"], tB]]
theorem eq_o1 : putD tA tD tO = e1 := eq_of (by decide +kernel)
def m2 : List (Str × Str) := [("a", "b"), ("b", "a")]
def m3 : List (Str × Str) := [("f", "a"), ("a", "f")]
theorem ok_o2 : RbOk m2 tO := ⟨by decide +kernel, by decide +kernel, nm_all (by decide +kernel), by decide, by decide, by decide +kernel⟩
theorem ok_o3 : RbOk m3 tO := ⟨by decide +kernel, by decide +kernel, nm_all (by decide +kernel), by decide, by decide, by decide +kernel⟩
theorem eq_o2 : renD (nmOf m2) tO = e2 := eq_of (by decide +kernel)
theorem eq_o3 : renD (nmOf m3) tO = e3 := eq_of (by decide +kernel)
theorem f_es : (formedD e1 && formedD e2 && formedD e3 && formedD tW2 && formedD (ch 1)) = true := by decide +kernel
end K03
/-! The law of k03. -/
namespace K03
open PySem PySem.Spec PyProof.Rows L2 Kx LamX
section
variable {P : Program} {w : World} {K : PySem.W.Frag} {mg : Str → Option Value} {base : Heap}
def spLaw (K : PySem.W.Frag) (tabs : List (Addr × Str)) : Sp := fun vs H Q _ => ∃ (a : Addr) (ns : List Int), vs = [.ref a] ∧ SqL K H a (ns.map V.int) ∧ Tabs tabs H ∧ ∀ H', Q (.bl true) H'
theorem ok_law (T : Tx K mg) (Y : Ty T) (TBR : TabB base mg Y.cR Y.PR) (TBN : TabB base mg Y.cN Y.PN) : FnG P w K mg base 20 T.alaw T.dlaw ["script"] (spLaw K Y.T) := by
  have nd := sc_law.nd
  have G_law_dice := ok_dice (P := P) (w := w) (base := base) T
  have G_law_names := ok_names (P := P) (w := w) (base := base) T
  have G_law_term := ok_lts (P := P) (w := w) (base := base) T
  have G_law_replaced_right := ok_rr (P := P) (w := w) (base := base) T Y TBR
  have G_law_renamed_right := ok_rnr (P := P) (w := w) (base := base) T Y TBN
  have Grep := ok_rep (P := P) (w := w) (base := base) T
  have Grb := ok_rb (P := P) (w := w) (base := base) T
  have Gr0 := (ok_ren0 (P := P) (w := w) (base := base) T).none
  have Gr2 := ok_ren2 (P := P) (w := w) (base := base) T
  have Gr2f := ok_ren2f (P := P) (w := w) (base := base) T
  refine okG T.flaw sc_law (fun vs H Q E h => ?_) (fun cdv A outer s H vs Q E cm hr h => ?_)
  · obtain ⟨a, ns, rfl, _⟩ := h
    rfl
  · obtain ⟨a, ns, rfl, hS, tt, q⟩ := h
    refine ⟨_, (pss_cons (ps_for PassesOwn.never rfl (pi_range1 (by rfl) T.b_range (pa_cons (pe_callB (call_max2 rfl) (by rfl) T.b_max (by decide +kernel) (pa_cons pe_int (pa_cons (pe_callB (call_min2 rfl) (by rfl) T.b_min (by decide +kernel) (pa_cons pe_int (pa_cons (pe_callB call_len_seq (by rfl) T.b_len (by decide +kernel) (pa_cons (pv 0) pa_nil)) pa_nil))) pa_nil))) pa_nil)) (pg_name (i := 1) nd rfl (.inl rfl)) (pss_cons (ps_set (i := 2) nd rfl (.inl rfl) (pe_call G_law_dice (hr.mono (by omega)) (by rfl) T.g_law_dice T.f_law_dice.kp T.n_law_dice .nil pass0 (pa_cons (pv 0) (pa_cons (pv 1) pa_nil))))
      (pss_cons (ps_set (i := 3) nd rfl (.inl rfl) (pe_call G_law_names (hr.mono (by omega)) (by rfl) T.g_law_names T.f_law_names.kp T.n_law_names .nil pass0 (pa_cons (pv 2) (pa_cons pe_int pa_nil))))
      (pss_one (ps_for PassesOwn.never rfl (pi_range1 (by rfl) T.b_range (pa_cons pe_int pa_nil)) (pg_name (i := 4) nd rfl (.inl rfl)) (pss_cons (ps_set (i := 5) nd rfl (.inl rfl) (pe_call G_law_term (hr.mono (by omega)) (by rfl) T.g_law_term T.f_law_term.kp T.n_law_term .nil pass0 (pa_cons (pv 2) (pa_cons (pv 3) (pa_cons pe_int pa_nil)))))
      (pss_cons (ps_if (pt_not (pt_val (pe_call G_law_replaced_right (hr.mono (by omega)) (by rfl) T.g_law_replaced_right T.f_law_replaced_right.kp T.n_law_replaced_right .nil pass0 (pa_cons (pv 2) (pa_cons (pv 3) (pa_cons (pv 5) pa_nil)))))) (pss_one (ps_ret pe_bl)) pss_nil)
      (pss_cons (ps_if (PW.pt (pw_or (pt_not (pt_val (pe_callG G_law_renamed_right cm (hr.mono (by omega)) (by rfl) T.g_law_renamed_right T.f_law_renamed_right.kp T.n_law_renamed_right (pa_cons (pv 2) (pa_cons (pv 5) pa_nil))))) (pw_or1 (pt_not (pt_val (pe_callG G_law_renamed_right cm (hr.mono (by omega)) (by rfl) T.g_law_renamed_right T.f_law_renamed_right.kp T.n_law_renamed_right (pa_cons (pv 2) (pa_cons (pv 5) pa_nil)))))))) (pss_one (ps_ret pe_bl)) pss_nil)
      (pss_one (ps_if (PW.pt (pw_or (pt_cmpR (op_neF (room200 hr)) (pe_callR (E := E0) Gr0 (hr.mono (by omega)) (by rfl) T.grenamed T.frenamed.kp (passes_call takes00 (fun _ _ _ _ h => h)) (pa_cons (pv 5) pa_nil)) (pv 5) (nomark _)) (pw_or1 (pt_cmpR (op_neF (room200 hr)) (pe_call (E := E0) Grb (hr.mono (by omega)) (by rfl) T.grenamed_by T.frenamed_by.kp T.nrenamed_by .nil (passes_call takes00 (fun _ _ _ _ h => h)) (pa_cons (pv 5) (pa_cons (pe_disp (pps_cons pe_str pe_str (pps_cons pe_str pe_str pps_nil)) (by rfl) (by rfl) (fun z => by cases z) (by decide)) pa_nil))) (pv 5) (nomark _))))) (pss_one (ps_ret pe_bl)) pss_nil))))))))))
      (pss_cons (ps_set (i := 6) nd rfl (.inl rfl) (pe_tup (pa_cons pe_str pa_nil)))
      (pss_cons (ps_for PassesOwn.never rfl (pi_range1 (by rfl) T.b_range (pa_cons pe_int pa_nil)) (pg_name (i := 4) nd rfl (.inl rfl)) (pss_one (ps_set (i := 6) nd rfl (.inl rfl) (pe_tup (pa_cons pe_str (pa_cons (pv 6) pa_nil))))))
      (pss_cons (ps_set (i := 7) nd rfl (.inl rfl) (pe_call (E := E0) Grep (hr.mono (by omega)) (by rfl) T.greplaced T.freplaced.kp T.nreplaced .nil (passes_call takes00 (fun _ _ _ _ h => h)) (pa_cons (pv 6) (pa_cons (pe_tup (pa_cons pe_str pa_nil)) (pa_cons (pv 6) pa_nil)))))
      (pss_cons (ps_if (PW.pt (pw_or (pt_cmpR (op_neF (room200 hr)) (pe_call (E := E0) Grep (hr.mono (by omega)) (by rfl) T.greplaced T.freplaced.kp T.nreplaced .nil (passes_call takes00 (fun _ _ _ _ h => h)) (pa_cons (pv 7) (pa_cons (pv 6) (pa_cons (pe_tup (pa_cons pe_str pa_nil)) pa_nil)))) (pv 6) (nomark _)) (pw_or1 (pt_cmpR (op_eqF (room200 hr)) (pe_call (E := E0) Grb (hr.mono (by omega)) (by rfl) T.grenamed_by T.frenamed_by.kp T.nrenamed_by .nil (passes_call takes00 (fun _ _ _ _ h => h)) (pa_cons (pv 7) (pa_cons (pe_disp (pps_cons pe_str pe_str pps_nil) (by rfl) (by rfl) (fun z => by cases z) (by decide)) pa_nil))) (pv 7) (nomark _))))) (pss_one (ps_ret pe_bl)) pss_nil)
      (pss_cons (ps_set (i := 8) nd rfl (.inl rfl) (pe_call (E := E0) Grb (hr.mono (by omega)) (by rfl) T.grenamed_by T.frenamed_by.kp T.nrenamed_by .nil (passes_call takes00 (fun _ _ _ _ h => h)) (pa_cons (pe_tup (pa_cons pe_str (pa_cons (pe_tup (pa_cons pe_str pa_nil)) (pa_cons (pe_tup (pa_cons pe_str pa_nil)) pa_nil)))) (pa_cons (pe_disp (pps_cons pe_str pe_str (pps_cons pe_str pe_str (pps_cons pe_str pe_str pps_nil))) (by rfl) (by rfl) (fun z => by cases z) (by decide)) pa_nil))))
      (pss_cons (ps_if (pt_cmpR (op_neF (room200 hr)) (pv 8) (pe_tup (pa_cons pe_str (pa_cons (pe_tup (pa_cons pe_str pa_nil)) (pa_cons (pe_tup (pa_cons pe_str pa_nil)) pa_nil)))) (nomark _)) (pss_one (ps_ret pe_bl)) pss_nil)
      (pss_cons (ps_set (i := 9) nd rfl (.inl rfl) (pe_tup (pa_cons pe_str (pa_cons (pe_tup (pa_cons pe_str (pa_cons (pe_tup (pa_cons pe_str pa_nil)) pa_nil))) pa_nil))))
      (pss_cons (ps_if (pt_cmpR (op_neF (room200 hr)) (pe_call (E := E0) Grep (hr.mono (by omega)) (by rfl) T.greplaced T.freplaced.kp T.nreplaced .nil (passes_call takes00 (fun _ _ _ _ h => h)) (pa_cons (pv 9) (pa_cons (pe_tup (pa_cons pe_str (pa_cons (pe_tup (pa_cons pe_str pa_nil)) pa_nil))) (pa_cons (pe_tup (pa_cons pe_str pa_nil)) pa_nil)))) (pe_tup (pa_cons pe_str (pa_cons (pe_tup (pa_cons pe_str pa_nil)) pa_nil))) (nomark _)) (pss_one (ps_ret pe_bl)) pss_nil)
      (pss_cons (ps_set (i := 10) nd rfl (.inl rfl) (pe_tup (pa_cons pe_str (pa_cons (pe_tup (pa_cons pe_str pa_nil)) (pa_cons (pe_tup (pa_cons pe_str (pa_cons (pe_tup (pa_cons pe_str pa_nil)) (pa_cons (pe_tup (pa_cons pe_str pa_nil)) pa_nil)))) pa_nil)))))
      (pss_cons (ps_set (i := 11) nd rfl (.inl rfl) (pe_tup (pa_cons pe_str (pa_cons (pe_tup (pa_cons pe_str pa_nil)) (pa_cons (pe_tup (pa_cons pe_str pa_nil)) pa_nil)))))
      (pss_cons (ps_set (i := 12) nd rfl (.inl rfl) (pe_lst (pa_cons (pe_call (E := E0) Grep (hr.mono (by omega)) (by rfl) T.greplaced T.freplaced.kp T.nreplaced .nil (passes_call takes00 (fun _ _ _ _ h => h)) (pa_cons (pv 10) (pa_cons (pe_tup (pa_cons pe_str pa_nil)) (pa_cons (pv 11) pa_nil)))) (pa_cons (pe_callKw (E := E0) Gr2 (hr.mono (by omega)) (by rfl) T.grenamed T.frenamed.kp (passes_call takes00 (fun _ _ _ _ h => h)) (pa_cons (pv 10) pa_nil) (pk_cons pe_str (pk_cons pe_str pk_nil))) pa_nil))))
      (pss_cons (ps_expr (pe_bm PySem.F.plainAttrs_list PySem.F.slot_list_append PySem.F.type_list_append mt_append (pv 12) (pa_cons (pe_callKw (E := E0) Gr2f (hr.mono (by omega)) (by rfl) T.grenamed T.frenamed.kp (passes_call takes00 (fun _ _ _ _ h => h)) (pa_cons (pv 10) pa_nil) (pk_cons pe_str (pk_cons pe_str pk_nil))) pa_nil)))
      (pss_cons (ps_set (i := 13) nd rfl (.inl rfl) (pe_lst (pa_cons (pe_tup (pa_cons pe_str (pa_cons (pv 11) (pa_cons (pe_tup (pa_cons pe_str (pa_cons (pv 11) (pa_cons (pe_tup (pa_cons pe_str pa_nil)) pa_nil)))) pa_nil)))) (pa_cons (pe_tup (pa_cons pe_str (pa_cons (pe_tup (pa_cons pe_str pa_nil)) (pa_cons (pe_tup (pa_cons pe_str (pa_cons (pe_tup (pa_cons pe_str pa_nil)) (pa_cons (pe_tup (pa_cons pe_str pa_nil)) pa_nil)))) pa_nil)))) pa_nil))))
      (pss_one (ps_ret (pe_cmpR (op_eqF (room200 hr)) (pv 12) (pe_op op_cat (pv 13) (pe_lst (pa_cons (pe_tup (pa_cons pe_str (pa_cons (pe_tup (pa_cons pe_str pa_nil)) (pa_cons (pe_tup (pa_cons pe_str (pa_cons (pe_tup (pa_cons pe_str pa_nil)) (pa_cons (pe_tup (pa_cons pe_str pa_nil)) pa_nil)))) pa_nil)))) pa_nil))) (nomark _)))))))))))))))))), ?_⟩
    have jb : ∀ n : Nat, 1 ≤ (if (if (n : Int) < 6 then (n : Int) else 6) > 1 then (if (n : Int) < 6 then (n : Int) else 6) else 1) ∧ (if (if (n : Int) < 6 then (n : Int) else 6) > 1 then (if (n : Int) < 6 then (n : Int) else 6) else 1) ≤ 6 := fun n => by
      split <;> split <;> omega
    obtain ⟨j1, j2⟩ := jb (ns.map V.int).length
    refine ⟨_, rfl, a, _, rfl, .inl hS, 6, _, rfl, 1, _, rfl, _, rfl, by omega, by omega, ?_⟩
    generalize (if (if (((ns.map V.int).length : Nat) : Int) < 6 then (((ns.map V.int).length : Nat) : Int) else 6) > 1 then (if (((ns.map V.int).length : Nat) : Int) < 6 then (((ns.map V.int).length : Nat) : Int) else 6) else 1) = j at j1 j2 ⊢
    refine for_range (fun i σ H' => ExtN H H' ∧ Tabs Y.T H' ∧ ∃ y1 y2 y3 y4 y5 y6 y7 y8 y9 y10 y11 y12 y13, σ = [some (.ref a), y1, y2, y3, y4, y5, y6, y7, y8, y9, y10, y11, y12, y13]) ⟨ExtN.refl H, tt, none, none, none, none, none, none, none, none, none, none, none, none, none, rfl⟩ ?_ ?_
    · rintro i σ H1 hi ⟨s1, t1, y1, y2, y3, y4, y5, y6, y7, y8, y9, y10, y11, y12, y13, rfl⟩
      have hS1 : SqL K H1 a (ns.map V.int) := by
        rcases hS with (h | ⟨o, h⟩) | h
        · exact .inl (.inl (s1 _ _ h (fun ps e => nomatch e)))
        · exact .inl (.inr ⟨o, s1 _ _ h (fun ps e => nomatch e)⟩)
        · exact .inr h
      refine ⟨_, rfl, _, rfl, a, ns, i, ?_, hS1, by omega, fun H2 p s2 np d0 => ?_⟩
      · rw [Int.zero_add]
        rfl
      have t2 := t1.ext s2
      refine ⟨_, rfl, p, 0, rfl, d0, by decide, fun nm zs H3 bt3 dd3 nn npn rn gd => ?_⟩
      have dd3 : Dice H3 p 100 := dd3
      have b3 : Bt p H1 H3 := (Bt.same s2).trans (.but bt3)
      have t3 := tabs_but t2 bt3 d0
      refine ⟨4, rfl, by decide, by decide, for_range (fun k σ G => Bt p H1 G ∧ Dice G p (100 + 800 * k) ∧ Tabs Y.T G ∧ RowsIn G nm zs ∧ ∃ y1 y4 y5 y6 y7 y8 y9 y10 y11 y12 y13, σ = [some (.ref a), y1, some (.ref p), some (.ref nm), y4, y5, y6, y7, y8, y9, y10, y11, y12, y13]) ⟨b3, dd3, t3, rn, _, _, _, _, _, _, _, _, _, _, _, rfl⟩ ?_ ?_⟩
      · rintro k σ G1 hk ⟨bG, dG, tG, rG, z1, z4, z5, z6, z7, z8, z9, z10, z11, z12, z13, rfl⟩
        have hk : k < 4 := hk
        refine ⟨_, rfl, _, rfl, p, nm, 4, 4, rfl, rfl, by decide, p, nm, 100 + 800 * k, zs, rfl, by decide, dG, by show 100 + 800 * k + 80 < 1000000; omega, rG, npn, gd, fun x d H4 bt4 d4 dx tm => ?_⟩
        have d4 : Dice H4 p (100 + 800 * k + 80) := d4
        have r4 := rG.but bt4 dG npn
        have t4 := tabs_but tG bt4 dG
        have td := tm.term gd
        refine ⟨_, rfl, _, rfl, _, rfl, p, nm, 100 + 800 * k + 80, zs, x, d, rfl, d4, by unfold cap; omega, r4, npn, gd, dx, tm, t4, fun H5 b5 d5 t5 => ⟨_, rfl, iteF ?_⟩⟩
        have dx5 := b5.dx d4 tm.fm dx
        refine ⟨_, rfl, _, rfl, p, 100 + 800 * k + 80 + 160, x, d, rfl, d5, by unfold cap; omega, dx5, td, tm.dp, t5, fun H6 b6 d6 t6 => ⟨_, rfl, iteF ?_⟩⟩
        have dx6 := b6.dx d5 tm.fm dx5
        refine ⟨_, rfl, _, rfl, p, 100 + 800 * k + 80 + 160 + 250, x, d, rfl, d6, by unfold cap; omega, dx6, td, tm.dp, t6, fun H7 b7 d7 t7 => ⟨_, rfl, iteF ?_⟩⟩
        have dx7 := b7.dx d6 tm.fm dx6
        have r7 := ((b5.trans (b6.trans b7))).rows d4 r4 npn
        have b17 := bG.trans ((Bt.but bt4).trans (b5.trans (b6.trans b7)))
        have pd := plain_formed d tm.fm
        have lp : (preD d).length ≤ 40 := pre_most 4 d tm.fm tm.dp
        have dp4 := tm.dp
        have ok0 : RbOk [] d := ⟨td, by omega, fun x y h => (nomatch h), List.nodup_nil, Nat.zero_le _, ap_id fun r _ => rfl⟩
        have e0 : renD (nmOf []) d = d := ren_id d tm.fm fun r _ => rfl
        have nk2 : ∀ r, r ∈ rowsD d → nmOf [("k", "kk"), ("kk", "k")] r.1 = r.1 := fun r hr => by
          obtain ⟨h1, h2⟩ := gd.nk r (tm.rw r hr)
          have a1 : decide (("k" : Str) = r.1) = false := decide_eq_false fun e => h1 e.symm
          have a2 : decide (("kk" : Str) = r.1) = false := decide_eq_false fun e => h2 e.symm
          simp [nmOf, look, List.find?, a1, a2]
        have ok2 : RbOk [("k", "kk"), ("kk", "k")] d := ⟨td, by omega, fun x y h => by
          rcases List.mem_cons.mp h with e | h
          · cases e; exact ⟨by decide +kernel, by decide +kernel⟩
          · cases List.mem_singleton.mp h; exact ⟨by decide +kernel, by decide +kernel⟩, by decide, by decide, ap_id nk2⟩
        have e2 : renD (nmOf [("k", "kk"), ("kk", "k")]) d = d := ren_id d tm.fm nk2
        refine ⟨_, rfl, x, rfl, fun dd ndd => rb_of ok0 (dx7.up (same_put ndd)) (by rw [upd_same]; rfl) fun v G sG dv => ?_⟩
        rw [e0] at dv
        have s8 := (same_put ndd).trans sG
        have dx8 := dx7.up s8
        refine ⟨_, rfl, d, d, Dx.dp pd.hd dv, Dx.dp pd.hd dx8, pd.lay, pd.lay, by omega, _, rfl, ?_⟩
        rw [SeqAt.eqv_refl _ pd.lay]
        refine iteF ⟨_, rfl, disp_str [("k", "kk"), ("kk", "k")] ok2.nd ok2.fw fun p2 H9 s9 _ ep9 => rb_of ok2 (dx8.up s9) ep9 fun v2 G2 sG2 dv2 => ?_⟩
        rw [e2] at dv2
        have s10 := s8.trans (s9.trans sG2)
        refine ⟨_, rfl, d, d, Dx.dp pd.hd dv2, Dx.dp pd.hd (dx7.up s10), pd.lay, pd.lay, by omega, _, rfl, ?_⟩
        rw [SeqAt.eqv_refl _ pd.lay]
        exact iteF ⟨b17.trans (.same s10), (d7.up s10).le (by omega), t7.ext s10, r7.up s10, _, _, _, _, _, _, _, _, _, _, _, rfl⟩
      · rintro σ G1 ⟨bG, dG, tG, rG, z1, z4, z5, z6, z7, z8, z9, z10, z11, z12, z13, rfl⟩
        exact ⟨s1.trans fun b o h n => bG b o h (fun e => by rw [e, np] at h; cases h) n, tG, _, _, _, _, _, _, _, _, _, _, _, _, _, rfl⟩
    · rintro σ H1 ⟨s1, t1, y1, y2, y3, y4, y5, y6, y7, y8, y9, y10, y11, y12, y13, rfl⟩
      have le100 : ∀ {n : Nat}, Nat.ble n 100 = true → n ≤ 100 := fun h => Nat.le_of_ble_eq_true h
      refine asg_mh (K := K) (d := ch 0) (mh_tup (mh_cons (mh_str "a") mh_nil) (le100 rfl)) fun x6 H2 _ dx2 => ?_
      refine ⟨39, rfl, by decide, by decide, for_range (fun i σ G => ∃ x, Dx K G x (ch i) ∧ ∃ y1 y2 y3 y4 y5 y7 y8 y9 y10 y11 y12 y13, σ = [some (.ref a), y1, y2, y3, y4, y5, some x, y7, y8, y9, y10, y11, y12, y13]) ⟨x6, dx2, _, _, _, _, _, _, _, _, _, _, _, _, rfl⟩ ?_ ?_⟩
      · rintro i σ G hi ⟨x, dx, z1, z2, z3, z4, z5, z7, z8, z9, z10, z11, z12, z13, rfl⟩
        exact asg1_mh (K := K) (d := ch (i + 1)) (mh_tup (mh_cons (mh_str "g") (mh_cons (mh_var (i := 6) rfl dx) mh_nil)) (le100 rfl)) fun x' G' s' dx' => ⟨x', dx', _, _, _, _, _, _, _, _, _, _, _, _, rfl⟩
      · rintro σ H3 ⟨x6, dx6, z1, z2, z3, z4, z5, z7, z8, z9, z10, z11, z12, z13, rfl⟩
        have dx6 : Dx K H3 x6 (ch 39) := dx6
        refine asg_mh (mh_rep (mh_var (i := 6) rfl dx6) (mh_tup (mh_cons (mh_str "a") mh_nil) (le100 rfl)) (mh_var (i := 6) rfl dx6) deep1) fun x7 H4 s4 dx7 => ?_
        have dx7 : Dx K H4 x7 (ch 78) := by rw [← deep2]; exact dx7
        have dx6 := dx6.up s4
        have f39 : formedD (ch 39) = true := by decide +kernel
        have f78 : formedD (ch 78) = true := by decide +kernel
        have p39 := plain_formed _ f39
        have p78 := plain_formed _ f78
        refine (mh_rep (mh_var (i := 7) rfl dx7) (mh_var (i := 6) rfl dx6) (mh_tup (mh_cons (mh_str "a") mh_nil) (le100 rfl)) deep3) H4 _ (Same.refl H4) fun v H5 s5 dv => ?_
        have dv : Dx K H5 v (ch 39) := by rw [← deep4]; exact dv
        refine ⟨_, rfl, ch 39, ch 39, Dx.dp p39.hd dv, Dx.dp p39.hd (dx6.up s5), p39.lay, p39.lay, by decide +kernel, _, rfl, ?_⟩
        rw [SeqAt.eqv_refl _ p39.lay]
        refine iteF ?_
        have pw78 := plain_formed _ f_w78
        have pc1 := plain_formed (ch 1) (by decide +kernel)
        have pW2 := plain_formed tW2 (by decide +kernel)
        have dx75 := dx7.up s5
        refine (mh_rb (K := K) [("g", "w")] (mh_var (i := 7) rfl dx75) okg) H5 _ (Same.refl H5) fun v2 H6 s6 dv2 => ?_
        refine ⟨_, rfl, renD (nmOf [("g", "w")]) (ch 78), ch 78, Dx.dp pw78.hd dv2, Dx.dp p78.hd (dx75.up s6), pw78.lay, p78.lay, by decide +kernel, _, rfl, ?_⟩
        rw [deep5]
        refine iteF ?_
        -- words
        refine asg_mh (K := K) (mh_rb mW (mh_tup (mh_cons (mh_str "f") (mh_cons (mh_tup (mh_cons (mh_str "term") mh_nil) (le100 rfl)) (mh_cons (mh_tup (mh_cons (mh_str "names") mh_nil) (le100 rfl)) mh_nil))) (le100 rfl)) okW) fun x8 H7 s7 dx8 => ?_
        have dx8 : Dx K H7 x8 tW2 := by rw [← eqW]; exact dx8
        refine ⟨_, rfl, (mh_tup (K := K) (mh_cons (mh_str "f") (mh_cons (mh_tup (mh_cons (mh_str "old") mh_nil) (le100 rfl)) (mh_cons (mh_tup (mh_cons (mh_str "new") mh_nil) (le100 rfl)) mh_nil))) (le100 rfl)) H7 _ (Same.refl H7) fun y H8 s8 dy => ⟨tW2, tW2, Dx.dp pW2.hd (dx8.up s8), Dx.dp pW2.hd dy, pW2.lay, pW2.lay, by decide +kernel, _, rfl, ?_⟩⟩
        rw [SeqAt.eqv_refl _ pW2.lay]
        refine iteF ?_
        -- twice
        refine asg_mh (K := K) (d := ch 2) (mh_tup (mh_cons (mh_str "g") (mh_cons (mh_tup (mh_cons (mh_str "g") (mh_cons (mh_tup (mh_cons (mh_str "a") mh_nil) (le100 rfl)) mh_nil)) (le100 rfl)) mh_nil)) (le100 rfl)) fun x9 H9 s9 dx9 => ?_
        refine (mh_rep (K := K) (mh_var (i := 9) rfl dx9) (mh_tup (mh_cons (mh_str "g") (mh_cons (mh_tup (mh_cons (mh_str "a") mh_nil) (le100 rfl)) mh_nil)) (le100 rfl)) (mh_tup (mh_cons (mh_str "a") mh_nil) (le100 rfl)) ok_tw) H9 _ (Same.refl H9) fun v3 H10 s10 dv3 => ?_
        have dv3 : Dx K H10 v3 (ch 1) := by rw [← eq_tw]; exact dv3
        refine (mh_tup (K := K) (mh_cons (mh_str "g") (mh_cons (mh_tup (mh_cons (mh_str "a") mh_nil) (le100 rfl)) mh_nil)) (le100 rfl)) H10 _ (Same.refl H10) fun y2 H11 s11 dy2 => ?_
        refine ⟨ch 1, ch 1, Dx.dp pc1.hd (dv3.up s11), Dx.dp pc1.hd dy2, pc1.lay, pc1.lay, by decide +kernel, _, rfl, ?_⟩
        rw [SeqAt.eqv_refl _ pc1.lay]
        refine iteF ?_
        refine asg_mh (K := K) (d := tO) (mh_tup (mh_cons (mh_str "f") (mh_cons (mh_tup (mh_cons (mh_str "a") mh_nil) (le100 rfl)) (mh_cons (mh_tup (mh_cons (mh_str "f") (mh_cons (mh_tup (mh_cons (mh_str "a") mh_nil) (le100 rfl)) (mh_cons (mh_tup (mh_cons (mh_str "b") mh_nil) (le100 rfl)) mh_nil))) (le100 rfl)) mh_nil))) (le100 rfl)) fun x10 H12 _ dx10 => ?_
        refine asg_mh (K := K) (d := tD) (mh_tup (mh_cons (mh_str "f") (mh_cons (mh_tup (mh_cons (mh_str "a") mh_nil) (le100 rfl)) (mh_cons (mh_tup (mh_cons (mh_str "a") mh_nil) (le100 rfl)) mh_nil))) (le100 rfl)) fun x11 H13 s13 dx11 => ?_
        have dx10 := dx10.up s13
        refine asg_mh (K := K) (mh_lst (mh_cons (mh_rep (mh_var (i := 10) rfl dx10) (mh_tup (mh_cons (mh_str "a") mh_nil) (le100 rfl)) (mh_var (i := 11) rfl dx11) ok_o1) (mh_cons (mh_kw m2 (fun _ _ h => h) rfl (mh_var (i := 10) rfl dx10) ok_o2) mh_nil)) (le100 rfl)) fun x12 H14 s14 dx12 => ?_
        have dx12 : Dx K H14 x12 (.list [e1, e2]) := by rw [← eq_o1, ← eq_o2]; exact dx12
        have dx10 := dx10.up s14
        have dx11 := dx11.up s14
        have fes := f_es
        simp only [Bool.and_eq_true] at fes
        obtain ⟨⟨⟨⟨f1, f2⟩, f3⟩, _⟩, _⟩ := fes
        have pe1 := plain_formed _ f1
        have pe2 := plain_formed _ f2
        have pe3 := plain_formed _ f3
        cases dx12 with
        | @lst l12 xs12 _ e12 dxs12 =>
        have l2 := dxs12.length
        have l2 : xs12.length = 2 := l2
        refine ⟨_, rfl, .inl ⟨rfl, _, .inl (.inl e12)⟩, (mh_kw (K := K) m3 (fun _ _ h => h) rfl (mh_var (i := 10) rfl dx10) ok_o3) H14 _ (Same.refl H14) fun v4 H15 s15 dv4 => ⟨l12, xs12, v4, rfl, rfl, s15 _ _ e12, by rw [l2]; decide, ?_⟩⟩
        have dv4 : Dx K H15 v4 e3 := by rw [← eq_o3]; exact dv4
        have dxa : DxAll K H15 (xs12 ++ [v4]) ([e1, e2] ++ [e3]) := DxAll.append (dxs12.up s15) (.cons dv4 .nil)
        have tl : Tups H15 (upd H15 l12 (.lst (xs12 ++ [v4]))) := Tups.lst (s15 _ _ e12)
        have dxa := DxAll.ts tl _ _ (pure_formedAll _ (by show formedAll [e1, e2, e3] = true; decide +kernel)) dxa
        have dx11 := Dx.ts tl _ _ (pure_formed tD (by decide +kernel)) (dx11.up s15)
        have e16 : (upd H15 l12 (.lst (xs12 ++ [v4]))) l12 = some (.lst (xs12 ++ [v4])) := upd_same
        generalize upd H15 l12 (.lst (xs12 ++ [v4])) = H16 at dxa dx11 e16 ⊢
        refine asg_mh (K := K) (d := .list [e1, e2]) (mh_lst (mh_cons (mh_tup (mh_cons (mh_str "f") (mh_cons (mh_var (i := 11) rfl dx11) (mh_cons (mh_tup (mh_cons (mh_str "f") (mh_cons (mh_var (i := 11) rfl dx11) (mh_cons (mh_tup (mh_cons (mh_str "b") mh_nil) (le100 rfl)) mh_nil))) (le100 rfl)) mh_nil))) (le100 rfl)) (mh_cons (mh_tup (mh_cons (mh_str "f") (mh_cons (mh_tup (mh_cons (mh_str "b") mh_nil) (le100 rfl)) (mh_cons (mh_tup (mh_cons (mh_str "f") (mh_cons (mh_tup (mh_cons (mh_str "b") mh_nil) (le100 rfl)) (mh_cons (mh_tup (mh_cons (mh_str "a") mh_nil) (le100 rfl)) mh_nil))) (le100 rfl)) mh_nil))) (le100 rfl)) mh_nil)) (le100 rfl)) fun x13 H17 s17 dx13 => ?_
        cases dx13 with
        | @lst l13 xs13 _ e13 dxs13 =>
        refine ⟨_, rfl, _, rfl, (mh_lst (K := K) (mh_cons (mh_tup (mh_cons (mh_str "a") (mh_cons (mh_tup (mh_cons (mh_str "f") mh_nil) (le100 rfl)) (mh_cons (mh_tup (mh_cons (mh_str "a") (mh_cons (mh_tup (mh_cons (mh_str "f") mh_nil) (le100 rfl)) (mh_cons (mh_tup (mh_cons (mh_str "b") mh_nil) (le100 rfl)) mh_nil))) (le100 rfl)) mh_nil))) (le100 rfl)) mh_nil) (le100 rfl)) H17 _ (Same.refl H17) fun y H18 s18 dy => ?_⟩
        have dy : Dx K H18 y (.list [e3]) := dy
        cases dy with
        | @lst ly ys _ ey dys =>
        have l3 := dxs13.length
        have l4 := dys.length
        refine ⟨l13, ly, xs13, ys, rfl, rfl, s18 _ _ e13, ey, by rw [l3, l4]; decide, fun p np => ?_⟩
        have sp := same_put (o := .lst (xs13 ++ ys)) np
        have dt : Dx K (upd H18 p (.lst (xs13 ++ ys))) (.ref l12) (.list [e1, e2, e3]) := .lst ((s17.trans (s18.trans sp)) _ _ e16) (dxa.up (s17.trans (s18.trans sp)))
        have du : Dx K (upd H18 p (.lst (xs13 ++ ys))) (.ref p) (.list [e1, e2, e3]) := .lst upd_same (DxAll.append (dxs13.up (s18.trans sp)) (dys.up sp))
        have lay : (PyData.list [e1, e2, e3]).canLay0 = true := by decide +kernel
        refine ⟨.list [e1, e2, e3], .list [e1, e2, e3], Dx.dp (by decide +kernel) dt, Dx.dp (by decide +kernel) du, lay, lay, by decide +kernel, ?_⟩
        rw [SeqAt.eqv_refl _ lay]
        exact q _
end
end K03
/-! The end of a law that makes lambdas, where no repr runs around it. -/
namespace Kx
open PySem PySem.Spec PyProof.Rows L2 LamX
/-- the script and the tables alone may stand -/
def OnlyT (cs : List (Addr × Addr)) (H : Hp) : Prop := ∀ b, H b = none ∨ (∃ p ∈ cs, b = p.2) ∨ ∃ o xs, H b = some (.frz o (.lst xs))
section
variable {P : Program} {w : World} {K : PySem.W.Frag} {mg mb : Str → Option Value} {k : Nat} {fa a : Addr} {fd : FuncData} {x : Str} {sp : Sp} {s₁ : Shared} {vs : List Value} {ns : List Int} {cs : List (Addr × Addr)}
/-- what is known of the makers' code objects where the law is called -/
structure Makers (K : PySem.W.Frag) (cs : List (Addr × Addr)) (h : Heap) : Prop where
  tab : ∀ p ∈ cs, h.get? p.2 = some { cls := .none, data := .fields #[] }
  out : ∀ p ∈ cs, K.lookup p.2 = none
  hd : ∀ p ∈ cs, PySem.W.CodeHd h p.1 p.2
/-- the builtins' module, as a maker asks for it -/
def BmAt (mg : Str → Option Value) (h : Heap) : Prop := ∃ (bm : Addr) (ob : Obj), mg "__builtins__" = some (.ref bm) ∧ bm ≠ builtinsNs ∧ h.get? bm = some ob ∧ ob.cls = .type "module" ∧ ob.dict = some builtinsNs ∧ ob.data = .plain
theorem law_fromT {H : Hp} (M : Makers K cs s₁.heap) (bmA : BmAt mg s₁.heap) (hH : ∀ p ∈ cs, H p.2 = some (.tbl #[])) (hO : OnlyT cs H) (hS : SqL K H a (ns.map V.int)) (hok : HOk P w H s₁.heap)
    (hA : ∀ b, H b ≠ none → b = a ∨ ∃ p ∈ cs, b = p.2) (hK : H a ≠ none → K.lookup a = none) (KX : K.In s₁.heap) (nsG : s₁.heap.Ns mainGlobals mg) (nsB : s₁.heap.Ns builtinsNs mb) (boot : ∀ x : Str, x ≠ "__name__" → mb x = bootBuiltins x) (lim : s₁.heap.NoLimit) (nog : s₁.gens = #[])
    (ha : s₁.heap.get? a = some { cls := .type "list", data := .seq vs.toArray }) (hr : Room k callerA)
    (F : ∀ base : Heap, K.In base → base.Ns mainGlobals mg → (∀ p ∈ cs, TabB base mg p.1 p.2) → FnG P w K mg base k fa fd [x] sp) (hbind : ∀ (s : Shared) (u : Value), BindsTo s fd ⟨[u], []⟩ [(x, u)])
    (hsp : sp [.ref a] H (fun v _ => v = .bl true) fun _ _ _ => False) :
    codeAny (model P w) callerA (.call (.ref fa) ⟨[.ref a], []⟩) (fun r s' => r = .ok (.ret (.bool true)) ∧ OldK s₁.heap s'.heap ∧ s'.os = s₁.os ∧ AllBare s'.gens) s₁ := by
  have hid : ∀ {b o}, s₁.heap.get? b = some o → H b = none → (hidT s₁.heap H).get? b = some o := fun e n => hidT_get e n
  -- what is neither a list nor an empty table is not tracked
  have off : ∀ {b : Addr} {o : Obj}, s₁.heap.get? b = some o → (∀ l n, o.data ≠ .seq l n) → o.data ≠ .fields #[] → H b = none := by
    intro b o e h1 h2
    cases q : H b with
    | none => rfl
    | some u =>
      rcases hA b (by simp [q]) with z | ⟨p, hp, z⟩
      · subst z
        rw [ha] at e
        cases e
        exact absurd rfl (h1 _ _)
      · subst z
        rw [M.tab p hp] at e
        cases e
        exact absurd rfl h2
  have offD : ∀ {b : Addr} {o : Obj} {es : Array DictEntry} {ep : Nat}, s₁.heap.get? b = some o → o.data = .dict es ep → H b = none := fun {b o es ep} e d => off e (fun l n z => by rw [d] at z; cases z) (fun z => by rw [d] at z; cases z)
  have ns_of : ∀ {b : Addr} {m : Str → Option Value}, s₁.heap.Ns b m → (hidT s₁.heap H).Ns b m := by
    rintro b m ⟨o, es, ep, e, d, r⟩
    exact ⟨o, es, ep, hid e (offD e d), d, r⟩
  have kin : K.In (hidT s₁.heap H) := by
    intro b o e
    refine hid (KX b o e) ?_
    cases q : H b with
    | none => rfl
    | some u =>
      rcases hA b (by simp [q]) with z | ⟨p, hp, z⟩
      · subst z
        rw [hK (by simp [q])] at e
        cases e
      · subst z
        rw [M.out p hp] at e
        cases e
  have md : Mod K mg (hidT s₁.heap H) := by
    obtain ⟨mc, h1, h2⟩ := lim
    exact ⟨kin, ns_of nsG, ⟨mb, ns_of nsB, boot⟩, mc, ns_of h1, h2⟩
  have notT : ∀ {b : Addr} {o : Obj}, s₁.heap.get? b = some o → o.data ≠ .fields #[] → ∀ p ∈ cs, b ≠ p.2 := fun {b o} e h p hp z => by
    rw [z, M.tab p hp] at e
    cases e
    exact h rfl
  have tb : ∀ p ∈ cs, TabB (hidT s₁.heap H) mg p.1 p.2 := by
    intro p hp
    constructor
    · obtain ⟨o, us, file, tf, flags, tg, inF, text, tt, c1, c2, c3, c4, c5⟩ := M.hd p hp
      refine ⟨o, us, file, tf, flags, tg, inF, text, tt, hid c1 (off c1 (fun l n z => ?_) fun z => ?_), c2, c3, c4, c5⟩
      · rw [c3] at z
        cases z
      · rw [c3] at z
        cases z
        simp at c4
    · obtain ⟨bm, ob, b1, b2, b3, b4, b5, b6⟩ := bmA
      refine ⟨bm, ob, b1, b2, fun z => ?_, notT b3 (by rw [b6]; exact fun z => nomatch z) p hp, hid b3 (off b3 (by rw [b6]; exact fun _ _ z => nomatch z) (by rw [b6]; exact fun z => nomatch z)), b4, b5, b6⟩
      obtain ⟨o, es, ep, e, d, _⟩ := nsG
      rw [z, e] at b3
      cases b3
      rw [d] at b6
      cases b6
    · obtain ⟨o, es, ep, e, d, _⟩ := nsG
      exact notT e (by rw [d]; exact fun z => nomatch z) p hp
  have e0 : Env0 P w K mg (hidT s₁.heap H) callerA [] s₁ H := ⟨rfl, md, fun b o e => of_hidT e, Nat.le_of_eq (hidT_size _ _), trivial, fun b hb => (nomatch (show b ∈ ([] : List Addr) from hb)), hok, .of_eq nog⟩
  refine codeAny_mono ((F _ kin (ns_of nsG) tb).run callerA [] s₁ H ⟨[.ref a], []⟩ [Value.ref a] [V.ref a] (fun v _ => v = .bl true) (fun _ _ _ => False) rfl hr e0 (hbind s₁ (.ref a)) (.cons rfl .nil) hsp) ?_
  intro r s' h
  rcases r with e | fl
  · exact h.elim
  rcases fl with _ | _ | _ | u
  · exact h.elim
  · exact h.elim
  · exact h.elim
  obtain ⟨v, H', os, bare, un, hok', r', q⟩ := h
  obtain rfl : v = .bl true := q
  obtain rfl : u = Value.bool true := r'
  have same : ∀ b o, (∀ p ∈ cs, b ≠ p.2) → s₁.heap.get? b = some o → s'.heap.get? b = some o := by
    intro b o nt e
    cases q : H b with
    | none => exact un.keep b o e q (fun z => (nomatch (show b ∈ ([] : List Addr) from z))) (fun z => nomatch z)
    | some u =>
      rcases hO b with z | ⟨p, hp, z⟩ | ⟨ob, xs, z⟩
      · rw [q] at z
        cases z
      · exact absurd z (nt p hp)
      · obtain ⟨e1, _⟩ := hok b _ z
        obtain ⟨e2, _⟩ := hok' b _ (un.frzs b ob _ z)
        rw [e] at e1
        cases e1
        exact e2
  have more : ∀ p ∈ cs, ∃ l : Array Value, s'.heap.get? p.2 = some { cls := .none, data := .fields l } := fun p hp => by
    obtain ⟨l, z⟩ := un.tbls p.2 #[] (hH p hp)
    exact ⟨_, hok' p.2 _ z⟩
  have cases2 : ∀ b : Addr, (∃ p ∈ cs, b = p.2) ∨ ∀ p ∈ cs, b ≠ p.2 := fun b => by
    by_cases h : ∃ p ∈ cs, b = p.2
    · exact .inl h
    · exact .inr fun p hp z => h ⟨p, hp, z⟩
  refine ⟨rfl, ⟨fun b o e => ?_, fun b o e => ?_⟩, os, bare⟩
  · rcases cases2 b with ⟨p, hp, z⟩ | nt
    · obtain ⟨l, hl⟩ := more p hp
      subst z
      rw [M.tab p hp] at e
      cases e
      exact .inr (.inl ⟨((M.hd p hp).tab (M.tab p hp)).isCodeTable, rfl, #[], l, rfl, by simpa using hl⟩)
    · exact .inl (same b o nt e)
  · rcases cases2 b with ⟨p, hp, z⟩ | nt
    · obtain ⟨l, hl⟩ := more p hp
      subst z
      exact ⟨_, hl⟩
    · exact ⟨o, same b o nt e⟩
theorem law_callT (M : Makers K cs s₁.heap) (bmA : BmAt mg s₁.heap) (KX : K.In s₁.heap) (nsG : s₁.heap.Ns mainGlobals mg) (nsB : s₁.heap.Ns builtinsNs mb) (boot : ∀ x : Str, x ≠ "__name__" → mb x = bootBuiltins x) (lim : s₁.heap.NoLimit) (nog : s₁.gens = #[])
    (ha : s₁.heap.get? a = some { cls := .type "list", data := .seq vs.toArray }) (hi : IntsAre vs ns) (hl : ns.length ≤ sizeLine) (hr : Room k callerA)
    (F : ∀ base : Heap, K.In base → base.Ns mainGlobals mg → (∀ p ∈ cs, TabB base mg p.1 p.2) → FnG P w K mg base k fa fd [x] sp) (hbind : ∀ (s : Shared) (u : Value), BindsTo s fd ⟨[u], []⟩ [(x, u)])
    (hsp : ∀ H : Hp, (∀ p ∈ cs, H p.2 = some (.tbl #[])) → SqL K H a (ns.map V.int) → sp [.ref a] H (fun v _ => v = .bl true) fun _ _ _ => False) :
    codeAny (model P w) callerA (.call (.ref fa) ⟨[.ref a], []⟩) (fun r s' => r = .ok (.ret (.bool true)) ∧ OldK s₁.heap s'.heap ∧ s'.os = s₁.os ∧ AllBare s'.gens) s₁ := by
  have rv := vals_ints hi
  have nv := hi.length
  have na : ∀ p ∈ cs, p.2 ≠ a := fun p hp z => by
    have q := M.tab p hp
    rw [z, ha] at q
    cases q
  let H0 : Hp := fun b => if b ∈ cs.map Prod.snd then some (.tbl #[]) else none
  have m_ : ∀ b, b ∈ cs.map Prod.snd ↔ ∃ p ∈ cs, b = p.2 := fun b => by
    rw [List.mem_map]
    exact ⟨fun ⟨p, hp, e⟩ => ⟨p, hp, e.symm⟩, fun ⟨p, hp, e⟩ => ⟨p, hp, e.symm⟩⟩
  have t0 : ∀ p ∈ cs, H0 p.2 = some (.tbl #[]) := fun p hp => if_pos ((m_ _).mpr ⟨p, hp, rfl⟩)
  have n0 : ∀ b, (¬ ∃ p ∈ cs, b = p.2) → H0 b = none := fun b h => if_neg fun z => h ((m_ b).mp z)
  have ok0 : ∀ p ∈ cs, ∀ H, ObjOk P w H s₁.heap p.2 (.tbl #[]) := fun p hp H => M.tab p hp
  cases hk : K.lookup a with
  | some o =>
    have e := KX a o hk
    rw [ha] at e
    cases e
    have S : SqL K H0 a (ns.map V.int) := .inr ⟨_, vs.toArray, _, hk, rfl, rfl, rfl, by rw [List.size_toArray, nv]; exact hl, by simpa using rv⟩
    have aT : ¬ ∃ p ∈ cs, a = p.2 := fun ⟨p, hp, z⟩ => na p hp z.symm
    refine law_fromT (H := H0) M bmA t0 (fun b => ?_) S (fun b u z => ?_) (fun b z => ?_) (fun z => absurd (n0 a aT) z) KX nsG nsB boot lim nog ha hr F hbind (hsp _ t0 S)
    · by_cases h : ∃ p ∈ cs, b = p.2
      · exact .inr (.inl h)
      · exact .inl (n0 b h)
    · by_cases h : ∃ p ∈ cs, b = p.2
      · obtain ⟨p, hp, rfl⟩ := h
        rw [t0 p hp] at z
        cases z
        exact ok0 p hp _
      · rw [n0 b h] at z
        cases z
    · by_cases h : ∃ p ∈ cs, b = p.2
      · exact .inr h
      · exact absurd (n0 b h) z
  | none =>
    let ob : Obj := { cls := .type "list", data := .seq vs.toArray }
    let H : Hp := fun b => if b = a then some (.frz ob (.lst (ns.map V.int))) else H0 b
    have at_ : H a = some (.frz ob (.lst (ns.map V.int))) := if_pos rfl
    have off : ∀ b, b ≠ a → H b = H0 b := fun b h => if_neg h
    have S : SqL K H a (ns.map V.int) := .inl (.inr ⟨ob, at_⟩)
    have t1 : ∀ p ∈ cs, H p.2 = some (.tbl #[]) := fun p hp => (off _ (na p hp)).trans (t0 p hp)
    refine law_fromT (H := H) M bmA t1 (fun b => ?_) S (fun b u z => ?_) (fun b z => ?_) (fun _ => hk) KX nsG nsB boot lim nog ha hr F hbind (hsp _ t1 S)
    · by_cases h : b = a
      · rw [h]
        exact .inr (.inr ⟨_, _, at_⟩)
      · rw [off b h]
        by_cases h2 : ∃ p ∈ cs, b = p.2
        · exact .inr (.inl h2)
        · exact .inl (n0 b h2)
    · by_cases h : b = a
      · subst h
        rw [at_] at z
        cases z
        exact ⟨ha, by rw [List.length_map]; exact hl, vs, _, rv, ha⟩
      · rw [off b h] at z
        by_cases h2 : ∃ p ∈ cs, b = p.2
        · obtain ⟨p, hp, rfl⟩ := h2
          rw [t0 p hp] at z
          cases z
          exact ok0 p hp _
        · rw [n0 b h2] at z
          cases z
    · by_cases h : b = a
      · exact .inl h
      · rw [off b h] at z
        by_cases h2 : ∃ p ∈ cs, b = p.2
        · exact .inr h2
        · exact absurd (n0 b h2) z
end
/-- as walk_ofG, for a law that makes lambdas -/
theorem walk_ofT {l : PySem.W.OpenLaw} {n k : Nat} {q : Program} {loose : List Str} {XP : (Str → Option Value) → Heap → Prop} {YP : World → Heap → Prop} {d : DefRec} {K : Params → PySem.W.Frag} {sp : World → Sp} {x : Str} {cs : List (Addr × Addr)}
    (hn : l.most = some n) (hn2 : n ≤ sizeLine) (hdf : d.params.defaults = []) (hr : Room k callerA) (hY : ∀ (w : World) (h : Heap), YP w h → (K w.params).In h) (hM : ∀ (w : World) (h : Heap), YP w h → Makers (K w.params) cs h)
    (F : ∀ (w : World) (mg : Str → Option Value) (fa : Addr) (h : Heap), (K w.params).In h → h.Ns mainGlobals mg → mg d.name = some (.ref fa) →
      ∃ fd : FuncData, (∀ (s : Shared) (u : Value), BindsTo s fd ⟨[u], []⟩ [(x, u)]) ∧ ∀ base : Heap, (K w.params).In base → base.Ns mainGlobals mg → (∀ p ∈ cs, TabB base mg p.1 p.2) → FnG l.prog w (K w.params) mg base k fa fd [x] (sp w))
    (hsp : ∀ (w : World) (H : Hp) (a : Addr) (ns : List Int), ns.length ≤ n → (∀ p ∈ cs, H p.2 = some (.tbl #[])) → SqL (K w.params) H a (ns.map V.int) → sp w [.ref a] H (fun v _ => v = .bl true) fun _ _ _ => False) :
    PySem.W.WalkO q loose XP YP l.row.toRowW d [] (fun f vs => PySem.call f vs) := by
  refine Att.attach_call hn hdf ?_
  intro w s₀ s₁ mg mb fa o pm cd doc a vs ns G Y ho hd hcd hmg hobj hints hlen hg
  have KX := hY w _ Y
  obtain ⟨fd, hb, hF⟩ := F w mg fa _ KX G.T.g hmg
  exact law_callT (hM w _ Y) G.T.bmain KX G.T.g G.T.b G.T.builtins G.T.nolimit hg hobj hints (Nat.le_trans hlen hn2) hr hF hb fun H hT hS => hsp w H a ns hlen hT hS
end Kx
open PySem PySem.Spec PyProof.Rows L2 Kx
theorem K03.tx_mk {K : PySem.W.Frag} {h : Heap} {mg : Str → Option Value} (X : K.In h) (G : h.Ns mainGlobals mg)
    {fpreorder : Addr} {odpreorder anpreorder : Option Addr} {slpreorder : Array (Option Value)} {ocpreorder kVpreorder dcpreorder pmpreorder cdpreorder ctpreorder : Value}
    {fnumbered : Addr} {odnumbered annumbered : Option Addr} {slnumbered : Array (Option Value)} {ocnumbered kVnumbered dcnumbered pmnumbered cdnumbered ctnumbered : Value}
    {fnumbered_rows : Addr} {odnumbered_rows annumbered_rows : Option Addr} {slnumbered_rows : Array (Option Value)} {ocnumbered_rows kVnumbered_rows dcnumbered_rows pmnumbered_rows cdnumbered_rows ctnumbered_rows : Value}
    {fput_in : Addr} {odput_in anput_in : Option Addr} {slput_in : Array (Option Value)} {ocput_in kVput_in dcput_in pmput_in cdput_in ctput_in : Value}
    {fwith_names : Addr} {odwith_names anwith_names : Option Addr} {slwith_names : Array (Option Value)} {ocwith_names kVwith_names dcwith_names pmwith_names cdwith_names ctwith_names : Value}
    {fis_name : Addr} {odis_name anis_name : Option Addr} {slis_name : Array (Option Value)} {ocis_name kVis_name dcis_name pmis_name cdis_name ctis_name : Value}
    {fis_term : Addr} {odis_term anis_term : Option Addr} {slis_term : Array (Option Value)} {ocis_term kVis_term dcis_term pmis_term cdis_term ctis_term : Value}
    {freplaced : Addr} {odreplaced anreplaced : Option Addr} {slreplaced : Array (Option Value)} {ocreplaced kVreplaced dcreplaced pmreplaced cdreplaced ctreplaced : Value}
    {frenamed : Addr} {odrenamed anrenamed : Option Addr} {slrenamed : Array (Option Value)} {ocrenamed kVrenamed dcrenamed pmrenamed cdrenamed ctrenamed : Value}
    {frenamed_by : Addr} {odrenamed_by anrenamed_by : Option Addr} {slrenamed_by : Array (Option Value)} {ocrenamed_by kVrenamed_by dcrenamed_by pmrenamed_by cdrenamed_by ctrenamed_by : Value}
    {fcheck_term : Addr} {odcheck_term ancheck_term : Option Addr} {slcheck_term : Array (Option Value)} {occheck_term kVcheck_term dccheck_term pmcheck_term cdcheck_term ctcheck_term : Value}
    {fcheck_renaming : Addr} {odcheck_renaming ancheck_renaming : Option Addr} {slcheck_renaming : Array (Option Value)} {occheck_renaming kVcheck_renaming dccheck_renaming pmcheck_renaming cdcheck_renaming ctcheck_renaming : Value}
    {fjoint_places : Addr} {odjoint_places anjoint_places : Option Addr} {sljoint_places : Array (Option Value)} {ocjoint_places kVjoint_places dcjoint_places pmjoint_places cdjoint_places ctjoint_places : Value}
    {fhas_form : Addr} {odhas_form anhas_form : Option Addr} {slhas_form : Array (Option Value)} {ochas_form kVhas_form dchas_form pmhas_form cdhas_form cthas_form : Value}
    {f_law_dice : Addr} {od_law_dice an_law_dice : Option Addr} {sl_law_dice : Array (Option Value)} {oc_law_dice kV_law_dice dc_law_dice pm_law_dice cd_law_dice ct_law_dice : Value}
    {f_law_roll : Addr} {od_law_roll an_law_roll : Option Addr} {sl_law_roll : Array (Option Value)} {oc_law_roll kV_law_roll dc_law_roll pm_law_roll cd_law_roll ct_law_roll : Value}
    {f_law_pick : Addr} {od_law_pick an_law_pick : Option Addr} {sl_law_pick : Array (Option Value)} {oc_law_pick kV_law_pick dc_law_pick pm_law_pick cd_law_pick ct_law_pick : Value}
    {f_law_mixed : Addr} {od_law_mixed an_law_mixed : Option Addr} {sl_law_mixed : Array (Option Value)} {oc_law_mixed kV_law_mixed dc_law_mixed pm_law_mixed cd_law_mixed ct_law_mixed : Value}
    {f_law_below : Addr} {od_law_below an_law_below : Option Addr} {sl_law_below : Array (Option Value)} {oc_law_below kV_law_below dc_law_below pm_law_below cd_law_below ct_law_below : Value}
    {f_law_names : Addr} {od_law_names an_law_names : Option Addr} {sl_law_names : Array (Option Value)} {oc_law_names kV_law_names dc_law_names pm_law_names cd_law_names ct_law_names : Value}
    {f_law_term : Addr} {od_law_term an_law_term : Option Addr} {sl_law_term : Array (Option Value)} {oc_law_term kV_law_term dc_law_term pm_law_term cd_law_term ct_law_term : Value}
    {f_law_put : Addr} {od_law_put an_law_put : Option Addr} {sl_law_put : Array (Option Value)} {oc_law_put kV_law_put dc_law_put pm_law_put cd_law_put ct_law_put : Value}
    {f_law_is_like : Addr} {od_law_is_like an_law_is_like : Option Addr} {sl_law_is_like : Array (Option Value)} {oc_law_is_like kV_law_is_like dc_law_is_like pm_law_is_like cd_law_is_like ct_law_is_like : Value}
    {f_law_other_names : Addr} {od_law_other_names an_law_other_names : Option Addr} {sl_law_other_names : Array (Option Value)} {oc_law_other_names kV_law_other_names dc_law_other_names pm_law_other_names cd_law_other_names ct_law_other_names : Value}
    {f_law_told : Addr} {od_law_told an_law_told : Option Addr} {sl_law_told : Array (Option Value)} {oc_law_told kV_law_told dc_law_told pm_law_told cd_law_told ct_law_told : Value}
    {f_law_due_names : Addr} {od_law_due_names an_law_due_names : Option Addr} {sl_law_due_names : Array (Option Value)} {oc_law_due_names kV_law_due_names dc_law_due_names pm_law_due_names cd_law_due_names ct_law_due_names : Value}
    {f_law_replaced_right : Addr} {od_law_replaced_right an_law_replaced_right : Option Addr} {sl_law_replaced_right : Array (Option Value)} {oc_law_replaced_right kV_law_replaced_right dc_law_replaced_right pm_law_replaced_right cd_law_replaced_right ct_law_replaced_right : Value}
    {f_law_renaming : Addr} {od_law_renaming an_law_renaming : Option Addr} {sl_law_renaming : Array (Option Value)} {oc_law_renaming kV_law_renaming dc_law_renaming pm_law_renaming cd_law_renaming ct_law_renaming : Value}
    {f_law_renamed_right : Addr} {od_law_renamed_right an_law_renamed_right : Option Addr} {sl_law_renamed_right : Array (Option Value)} {oc_law_renamed_right kV_law_renamed_right dc_law_renamed_right pm_law_renamed_right cd_law_renamed_right ct_law_renamed_right : Value}
    {flaw : Addr} {odlaw anlaw : Option Addr} {sllaw : Array (Option Value)} {oclaw kVlaw dclaw pmlaw cdlaw ctlaw : Value}
    (apreorder : PySem.W.nsIn K mainGlobals "preorder" = some (some (.ref fpreorder))) (lpreorder : K.lookup fpreorder = some ⟨ocpreorder, odpreorder, .func (PySem.W.fnOf "preorder" "preorder" (defArgs K03.s_preorder) (defBody K03.s_preorder) (defScope K03.s_preorder) .none kVpreorder dcpreorder pmpreorder anpreorder cdpreorder ctpreorder), slpreorder⟩) (cpreorder : PySem.W.codeIn K cdpreorder "preorder" = true) (kpreorder : PySem.W.keepIn K (.ref fpreorder) = true)
    (anumbered : PySem.W.nsIn K mainGlobals "numbered" = some (some (.ref fnumbered))) (lnumbered : K.lookup fnumbered = some ⟨ocnumbered, odnumbered, .func (PySem.W.fnOf "numbered" "numbered" (defArgs K03.s_numbered) (defBody K03.s_numbered) (defScope K03.s_numbered) .none kVnumbered dcnumbered pmnumbered annumbered cdnumbered ctnumbered), slnumbered⟩) (cnumbered : PySem.W.codeIn K cdnumbered "numbered" = true) (knumbered : PySem.W.keepIn K (.ref fnumbered) = true)
    (anumbered_rows : PySem.W.nsIn K mainGlobals "numbered_rows" = some (some (.ref fnumbered_rows))) (lnumbered_rows : K.lookup fnumbered_rows = some ⟨ocnumbered_rows, odnumbered_rows, .func (PySem.W.fnOf "numbered_rows" "numbered_rows" (defArgs K03.s_numbered_rows) (defBody K03.s_numbered_rows) (defScope K03.s_numbered_rows) .none kVnumbered_rows dcnumbered_rows pmnumbered_rows annumbered_rows cdnumbered_rows ctnumbered_rows), slnumbered_rows⟩) (cnumbered_rows : PySem.W.codeIn K cdnumbered_rows "numbered_rows" = true) (knumbered_rows : PySem.W.keepIn K (.ref fnumbered_rows) = true)
    (aput_in : PySem.W.nsIn K mainGlobals "put_in" = some (some (.ref fput_in))) (lput_in : K.lookup fput_in = some ⟨ocput_in, odput_in, .func (PySem.W.fnOf "put_in" "put_in" (defArgs K03.s_put_in) (defBody K03.s_put_in) (defScope K03.s_put_in) .none kVput_in dcput_in pmput_in anput_in cdput_in ctput_in), slput_in⟩) (cput_in : PySem.W.codeIn K cdput_in "put_in" = true) (kput_in : PySem.W.keepIn K (.ref fput_in) = true)
    (awith_names : PySem.W.nsIn K mainGlobals "with_names" = some (some (.ref fwith_names))) (lwith_names : K.lookup fwith_names = some ⟨ocwith_names, odwith_names, .func (PySem.W.fnOf "with_names" "with_names" (defArgs K03.s_with_names) (defBody K03.s_with_names) (defScope K03.s_with_names) .none kVwith_names dcwith_names pmwith_names anwith_names cdwith_names ctwith_names), slwith_names⟩) (cwith_names : PySem.W.codeIn K cdwith_names "with_names" = true) (kwith_names : PySem.W.keepIn K (.ref fwith_names) = true)
    (ais_name : PySem.W.nsIn K mainGlobals "is_name" = some (some (.ref fis_name))) (lis_name : K.lookup fis_name = some ⟨ocis_name, odis_name, .func (PySem.W.fnOf "is_name" "is_name" (defArgs K03.s_is_name) (defBody K03.s_is_name) (defScope K03.s_is_name) .none kVis_name dcis_name pmis_name anis_name cdis_name ctis_name), slis_name⟩) (cis_name : PySem.W.codeIn K cdis_name "is_name" = true) (kis_name : PySem.W.keepIn K (.ref fis_name) = true)
    (ais_term : PySem.W.nsIn K mainGlobals "is_term" = some (some (.ref fis_term))) (lis_term : K.lookup fis_term = some ⟨ocis_term, odis_term, .func (PySem.W.fnOf "is_term" "is_term" (defArgs K03.s_is_term) (defBody K03.s_is_term) (defScope K03.s_is_term) .none kVis_term dcis_term pmis_term anis_term cdis_term ctis_term), slis_term⟩) (cis_term : PySem.W.codeIn K cdis_term "is_term" = true) (kis_term : PySem.W.keepIn K (.ref fis_term) = true)
    (areplaced : PySem.W.nsIn K mainGlobals "replaced" = some (some (.ref freplaced))) (lreplaced : K.lookup freplaced = some ⟨ocreplaced, odreplaced, .func (PySem.W.fnOf "replaced" "replaced" (defArgs K03.s_replaced) (defBody K03.s_replaced) (defScope K03.s_replaced) .none kVreplaced dcreplaced pmreplaced anreplaced cdreplaced ctreplaced), slreplaced⟩) (creplaced : PySem.W.codeIn K cdreplaced "replaced" = true) (kreplaced : PySem.W.keepIn K (.ref freplaced) = true)
    (arenamed : PySem.W.nsIn K mainGlobals "renamed" = some (some (.ref frenamed))) (lrenamed : K.lookup frenamed = some ⟨ocrenamed, odrenamed, .func (PySem.W.fnOf "renamed" "renamed" (defArgs K03.s_renamed) (defBody K03.s_renamed) (defScope K03.s_renamed) .none kVrenamed dcrenamed pmrenamed anrenamed cdrenamed ctrenamed), slrenamed⟩) (crenamed : PySem.W.codeIn K cdrenamed "renamed" = true) (krenamed : PySem.W.keepIn K (.ref frenamed) = true)
    (arenamed_by : PySem.W.nsIn K mainGlobals "renamed_by" = some (some (.ref frenamed_by))) (lrenamed_by : K.lookup frenamed_by = some ⟨ocrenamed_by, odrenamed_by, .func (PySem.W.fnOf "renamed_by" "renamed_by" (defArgs K03.s_renamed_by) (defBody K03.s_renamed_by) (defScope K03.s_renamed_by) .none kVrenamed_by dcrenamed_by pmrenamed_by anrenamed_by cdrenamed_by ctrenamed_by), slrenamed_by⟩) (crenamed_by : PySem.W.codeIn K cdrenamed_by "renamed_by" = true) (krenamed_by : PySem.W.keepIn K (.ref frenamed_by) = true)
    (acheck_term : PySem.W.nsIn K mainGlobals "check_term" = some (some (.ref fcheck_term))) (lcheck_term : K.lookup fcheck_term = some ⟨occheck_term, odcheck_term, .func (PySem.W.fnOf "check_term" "check_term" (defArgs K03.s_check_term) (defBody K03.s_check_term) (defScope K03.s_check_term) .none kVcheck_term dccheck_term pmcheck_term ancheck_term cdcheck_term ctcheck_term), slcheck_term⟩) (ccheck_term : PySem.W.codeIn K cdcheck_term "check_term" = true) (kcheck_term : PySem.W.keepIn K (.ref fcheck_term) = true)
    (acheck_renaming : PySem.W.nsIn K mainGlobals "check_renaming" = some (some (.ref fcheck_renaming))) (lcheck_renaming : K.lookup fcheck_renaming = some ⟨occheck_renaming, odcheck_renaming, .func (PySem.W.fnOf "check_renaming" "check_renaming" (defArgs K03.s_check_renaming) (defBody K03.s_check_renaming) (defScope K03.s_check_renaming) .none kVcheck_renaming dccheck_renaming pmcheck_renaming ancheck_renaming cdcheck_renaming ctcheck_renaming), slcheck_renaming⟩) (ccheck_renaming : PySem.W.codeIn K cdcheck_renaming "check_renaming" = true) (kcheck_renaming : PySem.W.keepIn K (.ref fcheck_renaming) = true)
    (ajoint_places : PySem.W.nsIn K mainGlobals "joint_places" = some (some (.ref fjoint_places))) (ljoint_places : K.lookup fjoint_places = some ⟨ocjoint_places, odjoint_places, .func (PySem.W.fnOf "joint_places" "joint_places" (defArgs K03.s_joint_places) (defBody K03.s_joint_places) (defScope K03.s_joint_places) .none kVjoint_places dcjoint_places pmjoint_places anjoint_places cdjoint_places ctjoint_places), sljoint_places⟩) (cjoint_places : PySem.W.codeIn K cdjoint_places "joint_places" = true) (kjoint_places : PySem.W.keepIn K (.ref fjoint_places) = true)
    (ahas_form : PySem.W.nsIn K mainGlobals "has_form" = some (some (.ref fhas_form))) (lhas_form : K.lookup fhas_form = some ⟨ochas_form, odhas_form, .func (PySem.W.fnOf "has_form" "has_form" (defArgs K03.s_has_form) (defBody K03.s_has_form) (defScope K03.s_has_form) .none kVhas_form dchas_form pmhas_form anhas_form cdhas_form cthas_form), slhas_form⟩) (chas_form : PySem.W.codeIn K cdhas_form "has_form" = true) (khas_form : PySem.W.keepIn K (.ref fhas_form) = true)
    (a_law_dice : PySem.W.nsIn K mainGlobals "_law_dice" = some (some (.ref f_law_dice))) (l_law_dice : K.lookup f_law_dice = some ⟨oc_law_dice, od_law_dice, .func (PySem.W.fnOf "_law_dice" "_law_dice" (defArgs K03.s__law_dice) (defBody K03.s__law_dice) (defScope K03.s__law_dice) .none kV_law_dice dc_law_dice pm_law_dice an_law_dice cd_law_dice ct_law_dice), sl_law_dice⟩) (c_law_dice : PySem.W.codeIn K cd_law_dice "_law_dice" = true) (k_law_dice : PySem.W.keepIn K (.ref f_law_dice) = true)
    (a_law_roll : PySem.W.nsIn K mainGlobals "_law_roll" = some (some (.ref f_law_roll))) (l_law_roll : K.lookup f_law_roll = some ⟨oc_law_roll, od_law_roll, .func (PySem.W.fnOf "_law_roll" "_law_roll" (defArgs K03.s__law_roll) (defBody K03.s__law_roll) (defScope K03.s__law_roll) .none kV_law_roll dc_law_roll pm_law_roll an_law_roll cd_law_roll ct_law_roll), sl_law_roll⟩) (c_law_roll : PySem.W.codeIn K cd_law_roll "_law_roll" = true) (k_law_roll : PySem.W.keepIn K (.ref f_law_roll) = true)
    (a_law_pick : PySem.W.nsIn K mainGlobals "_law_pick" = some (some (.ref f_law_pick))) (l_law_pick : K.lookup f_law_pick = some ⟨oc_law_pick, od_law_pick, .func (PySem.W.fnOf "_law_pick" "_law_pick" (defArgs K03.s__law_pick) (defBody K03.s__law_pick) (defScope K03.s__law_pick) .none kV_law_pick dc_law_pick pm_law_pick an_law_pick cd_law_pick ct_law_pick), sl_law_pick⟩) (c_law_pick : PySem.W.codeIn K cd_law_pick "_law_pick" = true) (k_law_pick : PySem.W.keepIn K (.ref f_law_pick) = true)
    (a_law_mixed : PySem.W.nsIn K mainGlobals "_law_mixed" = some (some (.ref f_law_mixed))) (l_law_mixed : K.lookup f_law_mixed = some ⟨oc_law_mixed, od_law_mixed, .func (PySem.W.fnOf "_law_mixed" "_law_mixed" (defArgs K03.s__law_mixed) (defBody K03.s__law_mixed) (defScope K03.s__law_mixed) .none kV_law_mixed dc_law_mixed pm_law_mixed an_law_mixed cd_law_mixed ct_law_mixed), sl_law_mixed⟩) (c_law_mixed : PySem.W.codeIn K cd_law_mixed "_law_mixed" = true) (k_law_mixed : PySem.W.keepIn K (.ref f_law_mixed) = true)
    (a_law_below : PySem.W.nsIn K mainGlobals "_law_below" = some (some (.ref f_law_below))) (l_law_below : K.lookup f_law_below = some ⟨oc_law_below, od_law_below, .func (PySem.W.fnOf "_law_below" "_law_below" (defArgs K03.s__law_below) (defBody K03.s__law_below) (defScope K03.s__law_below) .none kV_law_below dc_law_below pm_law_below an_law_below cd_law_below ct_law_below), sl_law_below⟩) (c_law_below : PySem.W.codeIn K cd_law_below "_law_below" = true) (k_law_below : PySem.W.keepIn K (.ref f_law_below) = true)
    (a_law_names : PySem.W.nsIn K mainGlobals "_law_names" = some (some (.ref f_law_names))) (l_law_names : K.lookup f_law_names = some ⟨oc_law_names, od_law_names, .func (PySem.W.fnOf "_law_names" "_law_names" (defArgs K03.s__law_names) (defBody K03.s__law_names) (defScope K03.s__law_names) .none kV_law_names dc_law_names pm_law_names an_law_names cd_law_names ct_law_names), sl_law_names⟩) (c_law_names : PySem.W.codeIn K cd_law_names "_law_names" = true) (k_law_names : PySem.W.keepIn K (.ref f_law_names) = true)
    (a_law_term : PySem.W.nsIn K mainGlobals "_law_term" = some (some (.ref f_law_term))) (l_law_term : K.lookup f_law_term = some ⟨oc_law_term, od_law_term, .func (PySem.W.fnOf "_law_term" "_law_term" (defArgs K03.s__law_term) (defBody K03.s__law_term) (defScope K03.s__law_term) .none kV_law_term dc_law_term pm_law_term an_law_term cd_law_term ct_law_term), sl_law_term⟩) (c_law_term : PySem.W.codeIn K cd_law_term "_law_term" = true) (k_law_term : PySem.W.keepIn K (.ref f_law_term) = true)
    (a_law_put : PySem.W.nsIn K mainGlobals "_law_put" = some (some (.ref f_law_put))) (l_law_put : K.lookup f_law_put = some ⟨oc_law_put, od_law_put, .func (PySem.W.fnOf "_law_put" "_law_put" (defArgs K03.s__law_put) (defBody K03.s__law_put) (defScope K03.s__law_put) .none kV_law_put dc_law_put pm_law_put an_law_put cd_law_put ct_law_put), sl_law_put⟩) (c_law_put : PySem.W.codeIn K cd_law_put "_law_put" = true) (k_law_put : PySem.W.keepIn K (.ref f_law_put) = true)
    (a_law_is_like : PySem.W.nsIn K mainGlobals "_law_is_like" = some (some (.ref f_law_is_like))) (l_law_is_like : K.lookup f_law_is_like = some ⟨oc_law_is_like, od_law_is_like, .func (PySem.W.fnOf "_law_is_like" "_law_is_like" (defArgs K03.s__law_is_like) (defBody K03.s__law_is_like) (defScope K03.s__law_is_like) .none kV_law_is_like dc_law_is_like pm_law_is_like an_law_is_like cd_law_is_like ct_law_is_like), sl_law_is_like⟩) (c_law_is_like : PySem.W.codeIn K cd_law_is_like "_law_is_like" = true) (k_law_is_like : PySem.W.keepIn K (.ref f_law_is_like) = true)
    (a_law_other_names : PySem.W.nsIn K mainGlobals "_law_other_names" = some (some (.ref f_law_other_names))) (l_law_other_names : K.lookup f_law_other_names = some ⟨oc_law_other_names, od_law_other_names, .func (PySem.W.fnOf "_law_other_names" "_law_other_names" (defArgs K03.s__law_other_names) (defBody K03.s__law_other_names) (defScope K03.s__law_other_names) .none kV_law_other_names dc_law_other_names pm_law_other_names an_law_other_names cd_law_other_names ct_law_other_names), sl_law_other_names⟩) (c_law_other_names : PySem.W.codeIn K cd_law_other_names "_law_other_names" = true) (k_law_other_names : PySem.W.keepIn K (.ref f_law_other_names) = true)
    (a_law_told : PySem.W.nsIn K mainGlobals "_law_told" = some (some (.ref f_law_told))) (l_law_told : K.lookup f_law_told = some ⟨oc_law_told, od_law_told, .func (PySem.W.fnOf "_law_told" "_law_told" (defArgs K03.s__law_told) (defBody K03.s__law_told) (defScope K03.s__law_told) .none kV_law_told dc_law_told pm_law_told an_law_told cd_law_told ct_law_told), sl_law_told⟩) (c_law_told : PySem.W.codeIn K cd_law_told "_law_told" = true) (k_law_told : PySem.W.keepIn K (.ref f_law_told) = true)
    (a_law_due_names : PySem.W.nsIn K mainGlobals "_law_due_names" = some (some (.ref f_law_due_names))) (l_law_due_names : K.lookup f_law_due_names = some ⟨oc_law_due_names, od_law_due_names, .func (PySem.W.fnOf "_law_due_names" "_law_due_names" (defArgs K03.s__law_due_names) (defBody K03.s__law_due_names) (defScope K03.s__law_due_names) .none kV_law_due_names dc_law_due_names pm_law_due_names an_law_due_names cd_law_due_names ct_law_due_names), sl_law_due_names⟩) (c_law_due_names : PySem.W.codeIn K cd_law_due_names "_law_due_names" = true) (k_law_due_names : PySem.W.keepIn K (.ref f_law_due_names) = true)
    (a_law_replaced_right : PySem.W.nsIn K mainGlobals "_law_replaced_right" = some (some (.ref f_law_replaced_right))) (l_law_replaced_right : K.lookup f_law_replaced_right = some ⟨oc_law_replaced_right, od_law_replaced_right, .func (PySem.W.fnOf "_law_replaced_right" "_law_replaced_right" (defArgs K03.s__law_replaced_right) (defBody K03.s__law_replaced_right) (defScope K03.s__law_replaced_right) .none kV_law_replaced_right dc_law_replaced_right pm_law_replaced_right an_law_replaced_right cd_law_replaced_right ct_law_replaced_right), sl_law_replaced_right⟩) (c_law_replaced_right : PySem.W.codeIn K cd_law_replaced_right "_law_replaced_right" = true) (k_law_replaced_right : PySem.W.keepIn K (.ref f_law_replaced_right) = true)
    (a_law_renaming : PySem.W.nsIn K mainGlobals "_law_renaming" = some (some (.ref f_law_renaming))) (l_law_renaming : K.lookup f_law_renaming = some ⟨oc_law_renaming, od_law_renaming, .func (PySem.W.fnOf "_law_renaming" "_law_renaming" (defArgs K03.s__law_renaming) (defBody K03.s__law_renaming) (defScope K03.s__law_renaming) .none kV_law_renaming dc_law_renaming pm_law_renaming an_law_renaming cd_law_renaming ct_law_renaming), sl_law_renaming⟩) (c_law_renaming : PySem.W.codeIn K cd_law_renaming "_law_renaming" = true) (k_law_renaming : PySem.W.keepIn K (.ref f_law_renaming) = true)
    (a_law_renamed_right : PySem.W.nsIn K mainGlobals "_law_renamed_right" = some (some (.ref f_law_renamed_right))) (l_law_renamed_right : K.lookup f_law_renamed_right = some ⟨oc_law_renamed_right, od_law_renamed_right, .func (PySem.W.fnOf "_law_renamed_right" "_law_renamed_right" (defArgs K03.s__law_renamed_right) (defBody K03.s__law_renamed_right) (defScope K03.s__law_renamed_right) .none kV_law_renamed_right dc_law_renamed_right pm_law_renamed_right an_law_renamed_right cd_law_renamed_right ct_law_renamed_right), sl_law_renamed_right⟩) (c_law_renamed_right : PySem.W.codeIn K cd_law_renamed_right "_law_renamed_right" = true) (k_law_renamed_right : PySem.W.keepIn K (.ref f_law_renamed_right) = true)
    (alaw : PySem.W.nsIn K mainGlobals "law" = some (some (.ref flaw))) (llaw : K.lookup flaw = some ⟨oclaw, odlaw, .func (PySem.W.fnOf "law" "law" (defArgs K03.s_law) (defBody K03.s_law) (defScope K03.s_law) .none kVlaw dclaw pmlaw anlaw cdlaw ctlaw), sllaw⟩) (claw : PySem.W.codeIn K cdlaw "law" = true) (klaw : PySem.W.keepIn K (.ref flaw) = true)
    (zabs : PySem.W.nsIn K mainGlobals "abs" = some none)
    (zall : PySem.W.nsIn K mainGlobals "all" = some none)
    (zdict : PySem.W.nsIn K mainGlobals "dict" = some none)
    (zint : PySem.W.nsIn K mainGlobals "int" = some none)
    (zisinstance : PySem.W.nsIn K mainGlobals "isinstance" = some none)
    (zlen : PySem.W.nsIn K mainGlobals "len" = some none)
    (zlist : PySem.W.nsIn K mainGlobals "list" = some none)
    (zmax : PySem.W.nsIn K mainGlobals "max" = some none)
    (zmin : PySem.W.nsIn K mainGlobals "min" = some none)
    (zrange : PySem.W.nsIn K mainGlobals "range" = some none)
    (zrepr : PySem.W.nsIn K mainGlobals "repr" = some none)
    (zset : PySem.W.nsIn K mainGlobals "set" = some none)
    (zsorted : PySem.W.nsIn K mainGlobals "sorted" = some none)
    (zstr : PySem.W.nsIn K mainGlobals "str" = some none)
    (ztuple : PySem.W.nsIn K mainGlobals "tuple" = some none)
    (zzip : PySem.W.nsIn K mainGlobals "zip" = some none)
    {CInvalidName : Addr} (nInvalidName : PySem.W.nsIn K mainGlobals "InvalidName" = some (some (.ref CInvalidName))) (xInvalidName : PySem.W.excIn K CInvalidName [.type "ValueError", .type "Exception", .type "BaseException", .type "object"] "ValueError.__new__" = true) (kInvalidName : PySem.W.keepIn K (.ref CInvalidName) = true) (bInvalidName : PySem.W.subIn K (.ref CInvalidName) (.type "BaseException") = some true) (tInvalidName : PySem.W.typeIn K (.ref CInvalidName) = some (.type "type")) (iInvalidName : PySem.W.isClsIn K CInvalidName = true) (sInvalidName : PySem.W.subIn K (.ref CInvalidName) (.ref CInvalidName) = some true)
    {CInvalidTerm : Addr} (nInvalidTerm : PySem.W.nsIn K mainGlobals "InvalidTerm" = some (some (.ref CInvalidTerm))) (xInvalidTerm : PySem.W.excIn K CInvalidTerm [.type "ValueError", .type "Exception", .type "BaseException", .type "object"] "ValueError.__new__" = true) (kInvalidTerm : PySem.W.keepIn K (.ref CInvalidTerm) = true) (bInvalidTerm : PySem.W.subIn K (.ref CInvalidTerm) (.type "BaseException") = some true) (tInvalidTerm : PySem.W.typeIn K (.ref CInvalidTerm) = some (.type "type")) (iInvalidTerm : PySem.W.isClsIn K CInvalidTerm = true) (sInvalidTerm : PySem.W.subIn K (.ref CInvalidTerm) (.ref CInvalidTerm) = some true)
    {CInvalidOperation : Addr} (nInvalidOperation : PySem.W.nsIn K mainGlobals "InvalidOperation" = some (some (.ref CInvalidOperation))) (xInvalidOperation : PySem.W.excIn K CInvalidOperation [.type "ValueError", .type "Exception", .type "BaseException", .type "object"] "ValueError.__new__" = true) (kInvalidOperation : PySem.W.keepIn K (.ref CInvalidOperation) = true) (bInvalidOperation : PySem.W.subIn K (.ref CInvalidOperation) (.type "BaseException") = some true) (tInvalidOperation : PySem.W.typeIn K (.ref CInvalidOperation) = some (.type "type")) (iInvalidOperation : PySem.W.isClsIn K CInvalidOperation = true) (sInvalidOperation : PySem.W.subIn K (.ref CInvalidOperation) (.ref CInvalidOperation) = some true)
    {tMAX_PLACES : Tok} (zMAX_PLACES : PySem.W.nsIn K mainGlobals "MAX_PLACES" = some (some (.int 3 tMAX_PLACES)))
    {tLONGEST_NAME : Tok} (zLONGEST_NAME : PySem.W.nsIn K mainGlobals "LONGEST_NAME" = some (some (.int 8 tLONGEST_NAME)))
    : ∃ T : K03.Tx K mg, T.alaw = flaw ∧ T.dlaw = PySem.W.fnOf "law" "law" (defArgs K03.s_law) (defBody K03.s_law) (defScope K03.s_law) .none kVlaw dclaw pmlaw anlaw cdlaw ctlaw ∧ T.d_law_replaced_right.code = cd_law_replaced_right ∧ T.d_law_renamed_right.code = cd_law_renamed_right ∧ T.CInvalidOperation = CInvalidOperation ∧ T.CInvalidTerm = CInvalidTerm := by
  have Fpreorder := fun_mk (st := K03.s_preorder) lpreorder cpreorder kpreorder
  have Bpreorder := Fpreorder.binds (ps := ["terms"]) fun _ _ _ _ _ _ us hl => match us, hl with | [_], _ => rfl
  have Fnumbered := fun_mk (st := K03.s_numbered) lnumbered cnumbered knumbered
  have Bnumbered := Fnumbered.binds (ps := ["parts"]) fun _ _ _ _ _ _ us hl => match us, hl with | [_], _ => rfl
  have Fnumbered_rows := fun_mk (st := K03.s_numbered_rows) lnumbered_rows cnumbered_rows knumbered_rows
  have Bnumbered_rows := Fnumbered_rows.binds (ps := ["parts"]) fun _ _ _ _ _ _ us hl => match us, hl with | [_], _ => rfl
  have Fput_in := fun_mk (st := K03.s_put_in) lput_in cput_in kput_in
  have Bput_in := Fput_in.binds (ps := ["term", "old", "new"]) fun _ _ _ _ _ _ us hl => match us, hl with | [_, _, _], _ => rfl
  have Fwith_names := fun_mk (st := K03.s_with_names) lwith_names cwith_names kwith_names
  have Bwith_names := Fwith_names.binds (ps := ["term", "names"]) fun _ _ _ _ _ _ us hl => match us, hl with | [_, _], _ => rfl
  have Fis_name := fun_mk (st := K03.s_is_name) lis_name cis_name kis_name
  have Bis_name := Fis_name.binds (ps := ["value"]) fun _ _ _ _ _ _ us hl => match us, hl with | [_], _ => rfl
  have Fis_term := fun_mk (st := K03.s_is_term) lis_term cis_term kis_term
  have Bis_term := Fis_term.binds (ps := ["value"]) fun _ _ _ _ _ _ us hl => match us, hl with | [_], _ => rfl
  have Freplaced := fun_mk (st := K03.s_replaced) lreplaced creplaced kreplaced
  have Breplaced := Freplaced.binds (ps := ["term", "old", "new"]) fun _ _ _ _ _ _ us hl => match us, hl with | [_, _, _], _ => rfl
  have Frenamed := fun_mk (st := K03.s_renamed) lrenamed crenamed krenamed
  have Frenamed_by := fun_mk (st := K03.s_renamed_by) lrenamed_by crenamed_by krenamed_by
  have Brenamed_by := Frenamed_by.binds (ps := ["term", "names"]) fun _ _ _ _ _ _ us hl => match us, hl with | [_, _], _ => rfl
  have Fcheck_term := fun_mk (st := K03.s_check_term) lcheck_term ccheck_term kcheck_term
  have Bcheck_term := Fcheck_term.binds (ps := ["value"]) fun _ _ _ _ _ _ us hl => match us, hl with | [_], _ => rfl
  have Fcheck_renaming := fun_mk (st := K03.s_check_renaming) lcheck_renaming ccheck_renaming kcheck_renaming
  have Bcheck_renaming := Fcheck_renaming.binds (ps := ["places", "names"]) fun _ _ _ _ _ _ us hl => match us, hl with | [_, _], _ => rfl
  have Fjoint_places := fun_mk (st := K03.s_joint_places) ljoint_places cjoint_places kjoint_places
  have Bjoint_places := Fjoint_places.binds (ps := ["values"]) fun _ _ _ _ _ _ us hl => match us, hl with | [_], _ => rfl
  have Fhas_form := fun_mk (st := K03.s_has_form) lhas_form chas_form khas_form
  have Bhas_form := Fhas_form.binds (ps := ["value"]) fun _ _ _ _ _ _ us hl => match us, hl with | [_], _ => rfl
  have F_law_dice := fun_mk (st := K03.s__law_dice) l_law_dice c_law_dice k_law_dice
  have B_law_dice := F_law_dice.binds (ps := ["script", "spot"]) fun _ _ _ _ _ _ us hl => match us, hl with | [_, _], _ => rfl
  have F_law_roll := fun_mk (st := K03.s__law_roll) l_law_roll c_law_roll k_law_roll
  have B_law_roll := F_law_roll.binds (ps := ["dice", "many"]) fun _ _ _ _ _ _ us hl => match us, hl with | [_, _], _ => rfl
  have F_law_pick := fun_mk (st := K03.s__law_pick) l_law_pick c_law_pick k_law_pick
  have B_law_pick := F_law_pick.binds (ps := ["dice", "items"]) fun _ _ _ _ _ _ us hl => match us, hl with | [_, _], _ => rfl
  have F_law_mixed := fun_mk (st := K03.s__law_mixed) l_law_mixed c_law_mixed k_law_mixed
  have B_law_mixed := F_law_mixed.binds (ps := ["dice", "items"]) fun _ _ _ _ _ _ us hl => match us, hl with | [_, _], _ => rfl
  have F_law_below := fun_mk (st := K03.s__law_below) l_law_below c_law_below k_law_below
  have B_law_below := F_law_below.binds (ps := ["term"]) fun _ _ _ _ _ _ us hl => match us, hl with | [_], _ => rfl
  have F_law_names := fun_mk (st := K03.s__law_names) l_law_names c_law_names k_law_names
  have B_law_names := F_law_names.binds (ps := ["dice", "few"]) fun _ _ _ _ _ _ us hl => match us, hl with | [_, _], _ => rfl
  have F_law_term := fun_mk (st := K03.s__law_term) l_law_term c_law_term k_law_term
  have B_law_term := F_law_term.binds (ps := ["dice", "names", "deep"]) fun _ _ _ _ _ _ us hl => match us, hl with | [_, _, _], _ => rfl
  have F_law_put := fun_mk (st := K03.s__law_put) l_law_put c_law_put k_law_put
  have B_law_put := F_law_put.binds (ps := ["term", "old", "new"]) fun _ _ _ _ _ _ us hl => match us, hl with | [_, _, _], _ => rfl
  have F_law_is_like := fun_mk (st := K03.s__law_is_like) l_law_is_like c_law_is_like k_law_is_like
  have B_law_is_like := F_law_is_like.binds (ps := ["term"]) fun _ _ _ _ _ _ us hl => match us, hl with | [_], _ => rfl
  have F_law_other_names := fun_mk (st := K03.s__law_other_names) l_law_other_names c_law_other_names k_law_other_names
  have B_law_other_names := F_law_other_names.binds (ps := ["term", "names"]) fun _ _ _ _ _ _ us hl => match us, hl with | [_, _], _ => rfl
  have F_law_told := fun_mk (st := K03.s__law_told) l_law_told c_law_told k_law_told
  have B_law_told := F_law_told.binds (ps := ["call"]) fun _ _ _ _ _ _ us hl => match us, hl with | [_], _ => rfl
  have F_law_due_names := fun_mk (st := K03.s__law_due_names) l_law_due_names c_law_due_names k_law_due_names
  have B_law_due_names := F_law_due_names.binds (ps := ["term", "names"]) fun _ _ _ _ _ _ us hl => match us, hl with | [_, _], _ => rfl
  have F_law_replaced_right := fun_mk (st := K03.s__law_replaced_right) l_law_replaced_right c_law_replaced_right k_law_replaced_right
  have B_law_replaced_right := F_law_replaced_right.binds (ps := ["dice", "names", "term"]) fun _ _ _ _ _ _ us hl => match us, hl with | [_, _, _], _ => rfl
  have F_law_renaming := fun_mk (st := K03.s__law_renaming) l_law_renaming c_law_renaming k_law_renaming
  have B_law_renaming := F_law_renaming.binds (ps := ["dice", "term"]) fun _ _ _ _ _ _ us hl => match us, hl with | [_, _], _ => rfl
  have F_law_renamed_right := fun_mk (st := K03.s__law_renamed_right) l_law_renamed_right c_law_renamed_right k_law_renamed_right
  have B_law_renamed_right := F_law_renamed_right.binds (ps := ["dice", "term"]) fun _ _ _ _ _ _ us hl => match us, hl with | [_, _], _ => rfl
  have Flaw := fun_mk (st := K03.s_law) llaw claw klaw
  have Blaw := Flaw.binds (ps := ["script"]) fun _ _ _ _ _ _ us hl => match us, hl with | [_], _ => rfl
  exact ⟨{ b_abs := PySem.W.mg_none_of X G zabs, b_all := PySem.W.mg_none_of X G zall, b_dict := PySem.W.mg_none_of X G zdict, b_int := PySem.W.mg_none_of X G zint, b_isinstance := PySem.W.mg_none_of X G zisinstance, b_len := PySem.W.mg_none_of X G zlen, b_list := PySem.W.mg_none_of X G zlist, b_max := PySem.W.mg_none_of X G zmax, b_min := PySem.W.mg_none_of X G zmin, b_range := PySem.W.mg_none_of X G zrange, b_repr := PySem.W.mg_none_of X G zrepr, b_set := PySem.W.mg_none_of X G zset, b_sorted := PySem.W.mg_none_of X G zsorted, b_str := PySem.W.mg_none_of X G zstr, b_tuple := PySem.W.mg_none_of X G ztuple, b_zip := PySem.W.mg_none_of X G zzip, CInvalidName := CInvalidName, gInvalidName := PySem.W.mg_of X G nInvalidName, xInvalidName := xInvalidName, kInvalidName := kInvalidName, bInvalidName := bInvalidName, tInvalidName := tInvalidName, eInvalidName := Kx.exm_self bInvalidName iInvalidName tInvalidName sInvalidName, CInvalidTerm := CInvalidTerm, gInvalidTerm := PySem.W.mg_of X G nInvalidTerm, xInvalidTerm := xInvalidTerm, kInvalidTerm := kInvalidTerm, bInvalidTerm := bInvalidTerm, tInvalidTerm := tInvalidTerm, eInvalidTerm := Kx.exm_self bInvalidTerm iInvalidTerm tInvalidTerm sInvalidTerm, CInvalidOperation := CInvalidOperation, gInvalidOperation := PySem.W.mg_of X G nInvalidOperation, xInvalidOperation := xInvalidOperation, kInvalidOperation := kInvalidOperation, bInvalidOperation := bInvalidOperation, tInvalidOperation := tInvalidOperation, eInvalidOperation := Kx.exm_self bInvalidOperation iInvalidOperation tInvalidOperation sInvalidOperation, c_MAX_PLACES := ⟨_, PySem.W.mg_of X G zMAX_PLACES⟩, c_LONGEST_NAME := ⟨_, PySem.W.mg_of X G zLONGEST_NAME⟩, apreorder := fpreorder, dpreorder := _, fpreorder := Fpreorder, gpreorder := PySem.W.mg_of X G apreorder, npreorder := Bpreorder, anumbered := fnumbered, dnumbered := _, fnumbered := Fnumbered, gnumbered := PySem.W.mg_of X G anumbered, nnumbered := Bnumbered, anumbered_rows := fnumbered_rows, dnumbered_rows := _, fnumbered_rows := Fnumbered_rows, gnumbered_rows := PySem.W.mg_of X G anumbered_rows, nnumbered_rows := Bnumbered_rows, aput_in := fput_in, dput_in := _, fput_in := Fput_in, gput_in := PySem.W.mg_of X G aput_in, nput_in := Bput_in, awith_names := fwith_names, dwith_names := _, fwith_names := Fwith_names, gwith_names := PySem.W.mg_of X G awith_names, nwith_names := Bwith_names, ais_name := fis_name, dis_name := _, fis_name := Fis_name, gis_name := PySem.W.mg_of X G ais_name, nis_name := Bis_name, ais_term := fis_term, dis_term := _, fis_term := Fis_term, gis_term := PySem.W.mg_of X G ais_term, nis_term := Bis_term, areplaced := freplaced, dreplaced := _, freplaced := Freplaced, greplaced := PySem.W.mg_of X G areplaced, nreplaced := Breplaced, arenamed := frenamed, drenamed := _, frenamed := Frenamed, grenamed := PySem.W.mg_of X G arenamed, arenamed_by := frenamed_by, drenamed_by := _, frenamed_by := Frenamed_by, grenamed_by := PySem.W.mg_of X G arenamed_by, nrenamed_by := Brenamed_by, acheck_term := fcheck_term, dcheck_term := _, fcheck_term := Fcheck_term, gcheck_term := PySem.W.mg_of X G acheck_term, ncheck_term := Bcheck_term, acheck_renaming := fcheck_renaming, dcheck_renaming := _, fcheck_renaming := Fcheck_renaming, gcheck_renaming := PySem.W.mg_of X G acheck_renaming, ncheck_renaming := Bcheck_renaming, ajoint_places := fjoint_places, djoint_places := _, fjoint_places := Fjoint_places, gjoint_places := PySem.W.mg_of X G ajoint_places, njoint_places := Bjoint_places, ahas_form := fhas_form, dhas_form := _, fhas_form := Fhas_form, ghas_form := PySem.W.mg_of X G ahas_form, nhas_form := Bhas_form, a_law_dice := f_law_dice, d_law_dice := _, f_law_dice := F_law_dice, g_law_dice := PySem.W.mg_of X G a_law_dice, n_law_dice := B_law_dice, a_law_roll := f_law_roll, d_law_roll := _, f_law_roll := F_law_roll, g_law_roll := PySem.W.mg_of X G a_law_roll, n_law_roll := B_law_roll, a_law_pick := f_law_pick, d_law_pick := _, f_law_pick := F_law_pick, g_law_pick := PySem.W.mg_of X G a_law_pick, n_law_pick := B_law_pick, a_law_mixed := f_law_mixed, d_law_mixed := _, f_law_mixed := F_law_mixed, g_law_mixed := PySem.W.mg_of X G a_law_mixed, n_law_mixed := B_law_mixed, a_law_below := f_law_below, d_law_below := _, f_law_below := F_law_below, g_law_below := PySem.W.mg_of X G a_law_below, n_law_below := B_law_below, a_law_names := f_law_names, d_law_names := _, f_law_names := F_law_names, g_law_names := PySem.W.mg_of X G a_law_names, n_law_names := B_law_names, a_law_term := f_law_term, d_law_term := _, f_law_term := F_law_term, g_law_term := PySem.W.mg_of X G a_law_term, n_law_term := B_law_term, a_law_put := f_law_put, d_law_put := _, f_law_put := F_law_put, g_law_put := PySem.W.mg_of X G a_law_put, n_law_put := B_law_put, a_law_is_like := f_law_is_like, d_law_is_like := _, f_law_is_like := F_law_is_like, g_law_is_like := PySem.W.mg_of X G a_law_is_like, n_law_is_like := B_law_is_like, a_law_other_names := f_law_other_names, d_law_other_names := _, f_law_other_names := F_law_other_names, g_law_other_names := PySem.W.mg_of X G a_law_other_names, n_law_other_names := B_law_other_names, a_law_told := f_law_told, d_law_told := _, f_law_told := F_law_told, g_law_told := PySem.W.mg_of X G a_law_told, n_law_told := B_law_told, a_law_due_names := f_law_due_names, d_law_due_names := _, f_law_due_names := F_law_due_names, g_law_due_names := PySem.W.mg_of X G a_law_due_names, n_law_due_names := B_law_due_names, a_law_replaced_right := f_law_replaced_right, d_law_replaced_right := _, f_law_replaced_right := F_law_replaced_right, g_law_replaced_right := PySem.W.mg_of X G a_law_replaced_right, n_law_replaced_right := B_law_replaced_right, a_law_renaming := f_law_renaming, d_law_renaming := _, f_law_renaming := F_law_renaming, g_law_renaming := PySem.W.mg_of X G a_law_renaming, n_law_renaming := B_law_renaming, a_law_renamed_right := f_law_renamed_right, d_law_renamed_right := _, f_law_renamed_right := F_law_renamed_right, g_law_renamed_right := PySem.W.mg_of X G a_law_renamed_right, n_law_renamed_right := B_law_renamed_right, alaw := flaw, dlaw := _, flaw := Flaw, glaw := PySem.W.mg_of X G alaw, nlaw := Blaw }, rfl, rfl, rfl, rfl, rfl, rfl⟩

namespace K03
open LamX
theorem ends {P : Program} {w : World} {K : PySem.W.Frag} {mg : Str → Option Value} {fa flaw CO CT : Addr} {kV dc pm cd ct cdR cdN : Value} {an : Option Addr} {cR PR cN PN : Addr}
    (hT : ∃ T : Tx K mg, T.alaw = flaw ∧ T.dlaw = PySem.W.fnOf "law" "law" (defArgs s_law) (defBody s_law) (defScope s_law) .none kV dc pm an cd ct ∧ T.d_law_replaced_right.code = cdR ∧ T.d_law_renamed_right.code = cdN ∧ T.CInvalidOperation = CO ∧ T.CInvalidTerm = CT) (hmg : mg "law" = some (.ref fa))
    (eOT : PySem.W.exmOne K (.ref CO) (.ref CT) = some false) (eR : cdR = .ref cR) (eN : cdN = .ref cN) (ne : PR ≠ PN) :
    ∃ fd : FuncData, (∀ (s : Shared) (u : Value), BindsTo s fd ⟨[u], []⟩ [("script", u)]) ∧ ∀ base : Heap, K.In base → base.Ns mainGlobals mg → (∀ p ∈ [(cR, PR), (cN, PN)], TabB base mg p.1 p.2) → FnG P w K mg base 20 fa fd ["script"] (spLaw K [(PR, qR), (PN, qN)]) := by
  obtain ⟨T, e1, e2, e3, e4, e5, e6⟩ := hT
  have z := T.glaw
  rw [hmg] at z
  cases z
  exact ⟨T.dlaw, fun s u => by rw [e2]; exact .of_eq rfl, fun base _ _ tb => ok_law T ⟨by rw [e5, e6]; exact eOT, cR, PR, cN, PN, e3.trans eR, e4.trans eN, ne⟩ (tb (cR, PR) (by simp)) (tb (cN, PN) (by simp))⟩
theorem walk {l : PySem.W.OpenLaw} {q : Program} {loose : List Str} {XP : (Str → Option Value) → Heap → Prop} {YP : World → Heap → Prop} {d : DefRec} {K : Params → PySem.W.Frag} {cR PR cN PN : Addr} (hn : l.most = some 63) (hdf : d.params.defaults = [])
    (hY : ∀ (w : World) (h : Heap), YP w h → (K w.params).In h) (hM : ∀ (w : World) (h : Heap), YP w h → Makers (K w.params) [(cR, PR), (cN, PN)] h)
    (F : ∀ (w : World) (mg : Str → Option Value) (fa : Addr) (h : Heap), (K w.params).In h → h.Ns mainGlobals mg → mg d.name = some (.ref fa) →
      ∃ fd : FuncData, (∀ (s : Shared) (u : Value), BindsTo s fd ⟨[u], []⟩ [("script", u)]) ∧ ∀ base : Heap, (K w.params).In base → base.Ns mainGlobals mg → (∀ p ∈ [(cR, PR), (cN, PN)], TabB base mg p.1 p.2) → FnG l.prog w (K w.params) mg base 20 fa fd ["script"] (spLaw (K w.params) [(PR, qR), (PN, qN)])) :
    PySem.W.WalkO q loose XP YP l.row.toRowW d [] (fun f vs => PySem.call f vs) := by
  refine walk_ofT (n := 63) (k := 20) (x := "script") (sp := fun w => spLaw (K w.params) [(PR, qR), (PN, qN)]) hn (by decide) hdf ⟨rfl, by decide, by decide⟩ hY hM F fun _ H a ns _ hH hS => ⟨a, ns, rfl, hS, fun p hp => ?_, fun _ => rfl⟩
  rcases List.mem_cons.mp hp with e | hp
  · rw [e]
    exact TabS.nil (hH (cR, PR) (by simp))
  · rw [List.mem_singleton.mp hp]
    exact TabS.nil (hH (cN, PN) (by simp))
end K03
open PySem PySem.W PyProof.Rows
set_option maxRecDepth 100000 in
set_option maxHeartbeats 0 in
theorem PySem.Challenge.cw_shownpart_k03_terms_replaced_and_renamed_holds : PySem.Challenge.rw_shownpart_k03_terms_replaced_and_renamed.Holds := by
  w_on; o_law; k_head; (case hw => w_witness2)
  k_fill
  refine K03.walk (l := PySem.Challenge.rw_shownpart_k03_terms_replaced_and_renamed) (cR := 231) (PR := 227) (cN := 241) (PN := 239) rfl rfl (fun w h Y => km_in_of Y) (fun w h Y => ?hMk) ?F
  case hMk =>
    have KX := km_in_of Y
    have HT := km_tabs_of Y
    refine ⟨fun p hp => ?_, fun p hp => ?_, fun p hp => ?_⟩
    · rcases List.mem_cons.mp hp with e | hp
      · rw [e]; exact HT _ (by k_mem)
      · rw [List.mem_singleton.mp hp]; exact HT _ (by k_mem)
    · rcases List.mem_cons.mp hp with e | hp
      · rw [e]; kernel_rfl
      · rw [List.mem_singleton.mp hp]; kernel_rfl
    · rcases List.mem_cons.mp hp with e | hp
      · rw [e]; exact codeHd_of_K KX (by kernel_rfl)
      · rw [List.mem_singleton.mp hp]; exact codeHd_of_K KX (by kernel_rfl)
  case F =>
    intro w mg fa h KX G hmg
    refine' K03.ends (K03.tx_mk KX G ?apreorder ?lpreorder ?cpreorder ?kpreorder ?anumbered ?lnumbered ?cnumbered ?knumbered ?anumbered_rows ?lnumbered_rows ?cnumbered_rows ?knumbered_rows ?aput_in ?lput_in ?cput_in ?kput_in ?awith_names ?lwith_names ?cwith_names ?kwith_names ?ais_name ?lis_name ?cis_name ?kis_name ?ais_term ?lis_term ?cis_term ?kis_term ?areplaced ?lreplaced ?creplaced ?kreplaced ?arenamed ?lrenamed ?crenamed ?krenamed ?arenamed_by ?lrenamed_by ?crenamed_by ?krenamed_by ?acheck_term ?lcheck_term ?ccheck_term ?kcheck_term ?acheck_renaming ?lcheck_renaming ?ccheck_renaming ?kcheck_renaming ?ajoint_places ?ljoint_places ?cjoint_places ?kjoint_places ?ahas_form ?lhas_form ?chas_form ?khas_form ?a_law_dice ?l_law_dice ?c_law_dice ?k_law_dice ?a_law_roll ?l_law_roll ?c_law_roll ?k_law_roll ?a_law_pick ?l_law_pick ?c_law_pick ?k_law_pick ?a_law_mixed ?l_law_mixed ?c_law_mixed ?k_law_mixed ?a_law_below ?l_law_below ?c_law_below ?k_law_below ?a_law_names ?l_law_names ?c_law_names ?k_law_names ?a_law_term ?l_law_term ?c_law_term ?k_law_term ?a_law_put ?l_law_put ?c_law_put ?k_law_put ?a_law_is_like ?l_law_is_like ?c_law_is_like ?k_law_is_like ?a_law_other_names ?l_law_other_names ?c_law_other_names ?k_law_other_names ?a_law_told ?l_law_told ?c_law_told ?k_law_told ?a_law_due_names ?l_law_due_names ?c_law_due_names ?k_law_due_names ?a_law_replaced_right ?l_law_replaced_right ?c_law_replaced_right ?k_law_replaced_right ?a_law_renaming ?l_law_renaming ?c_law_renaming ?k_law_renaming ?a_law_renamed_right ?l_law_renamed_right ?c_law_renamed_right ?k_law_renamed_right ?alaw ?llaw ?claw ?klaw ?zabs ?zall ?zdict ?zint ?zisinstance ?zlen ?zlist ?zmax ?zmin ?zrange ?zrepr ?zset ?zsorted ?zstr ?ztuple ?zzip ?nInvalidName ?xInvalidName ?kInvalidName ?bInvalidName ?tInvalidName ?iInvalidName ?sInvalidName ?nInvalidTerm ?xInvalidTerm ?kInvalidTerm ?bInvalidTerm ?tInvalidTerm ?iInvalidTerm ?sInvalidTerm ?nInvalidOperation ?xInvalidOperation ?kInvalidOperation ?bInvalidOperation ?tInvalidOperation ?iInvalidOperation ?sInvalidOperation ?zMAX_PLACES ?zLONGEST_NAME) hmg ?eOT ?eR ?eN (by decide)
    (case apreorder => k_is); (case lpreorder => k_is); (case cpreorder => k_is); (case kpreorder => k_is); (case anumbered => k_is); (case lnumbered => k_is); (case cnumbered => k_is); (case knumbered => k_is)
    (case anumbered_rows => k_is); (case lnumbered_rows => k_is); (case cnumbered_rows => k_is); (case knumbered_rows => k_is); (case aput_in => k_is); (case lput_in => k_is); (case cput_in => k_is); (case kput_in => k_is)
    (case awith_names => k_is); (case lwith_names => k_is); (case cwith_names => k_is); (case kwith_names => k_is); (case ais_name => k_is); (case lis_name => k_is); (case cis_name => k_is); (case kis_name => k_is)
    (case ais_term => k_is); (case lis_term => k_is); (case cis_term => k_is); (case kis_term => k_is); (case areplaced => k_is); (case lreplaced => k_is); (case creplaced => k_is); (case kreplaced => k_is)
    (case arenamed => k_is); (case lrenamed => k_is); (case crenamed => k_is); (case krenamed => k_is); (case arenamed_by => k_is); (case lrenamed_by => k_is); (case crenamed_by => k_is); (case krenamed_by => k_is)
    (case acheck_term => k_is); (case lcheck_term => k_is); (case ccheck_term => k_is); (case kcheck_term => k_is); (case acheck_renaming => k_is); (case lcheck_renaming => k_is); (case ccheck_renaming => k_is); (case kcheck_renaming => k_is)
    (case ajoint_places => k_is); (case ljoint_places => k_is); (case cjoint_places => k_is); (case kjoint_places => k_is); (case ahas_form => k_is); (case lhas_form => k_is); (case chas_form => k_is); (case khas_form => k_is)
    (case a_law_dice => k_is); (case l_law_dice => k_is); (case c_law_dice => k_is); (case k_law_dice => k_is); (case a_law_roll => k_is); (case l_law_roll => k_is); (case c_law_roll => k_is); (case k_law_roll => k_is)
    (case a_law_pick => k_is); (case l_law_pick => k_is); (case c_law_pick => k_is); (case k_law_pick => k_is); (case a_law_mixed => k_is); (case l_law_mixed => k_is); (case c_law_mixed => k_is); (case k_law_mixed => k_is)
    (case a_law_below => k_is); (case l_law_below => k_is); (case c_law_below => k_is); (case k_law_below => k_is); (case a_law_names => k_is); (case l_law_names => k_is); (case c_law_names => k_is); (case k_law_names => k_is)
    (case a_law_term => k_is); (case l_law_term => k_is); (case c_law_term => k_is); (case k_law_term => k_is); (case a_law_put => k_is); (case l_law_put => k_is); (case c_law_put => k_is); (case k_law_put => k_is)
    (case a_law_is_like => k_is); (case l_law_is_like => k_is); (case c_law_is_like => k_is); (case k_law_is_like => k_is); (case a_law_other_names => k_is); (case l_law_other_names => k_is); (case c_law_other_names => k_is); (case k_law_other_names => k_is)
    (case a_law_told => k_is); (case l_law_told => k_is); (case c_law_told => k_is); (case k_law_told => k_is); (case a_law_due_names => k_is); (case l_law_due_names => k_is); (case c_law_due_names => k_is); (case k_law_due_names => k_is)
    (case a_law_replaced_right => k_is); (case l_law_replaced_right => k_is); (case c_law_replaced_right => k_is); (case k_law_replaced_right => k_is); (case a_law_renaming => k_is); (case l_law_renaming => k_is); (case c_law_renaming => k_is); (case k_law_renaming => k_is)
    (case a_law_renamed_right => k_is); (case l_law_renamed_right => k_is); (case c_law_renamed_right => k_is); (case k_law_renamed_right => k_is); (case alaw => k_is); (case llaw => k_is); (case claw => k_is); (case klaw => k_is)
    (case zabs => k_is); (case zall => k_is); (case zdict => k_is); (case zint => k_is); (case zisinstance => k_is); (case zlen => k_is); (case zlist => k_is); (case zmax => k_is)
    (case zmin => k_is); (case zrange => k_is); (case zrepr => k_is); (case zset => k_is); (case zsorted => k_is); (case zstr => k_is); (case ztuple => k_is); (case zzip => k_is)
    (case nInvalidName => k_is); (case xInvalidName => k_exc); (case kInvalidName => k_is); (case bInvalidName => k_is); (case tInvalidName => k_is); (case iInvalidName => k_is); (case sInvalidName => first | rfl | k_is); (case nInvalidTerm => k_is)
    (case xInvalidTerm => k_exc); (case kInvalidTerm => k_is); (case bInvalidTerm => k_is); (case tInvalidTerm => k_is); (case iInvalidTerm => k_is); (case sInvalidTerm => first | rfl | k_is); (case nInvalidOperation => k_is); (case xInvalidOperation => k_exc)
    (case kInvalidOperation => k_is); (case bInvalidOperation => k_is); (case tInvalidOperation => k_is); (case iInvalidOperation => k_is); (case sInvalidOperation => first | rfl | k_is); (case zMAX_PLACES => k_is); (case zLONGEST_NAME => k_is)
    (case eOT => kernel_rfl); (case eR => rfl); (case eN => rfl)
