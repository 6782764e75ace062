import PyProof.Rows.All
import Wide.All
import OpenK.AllK
import Wide.FinOn
import HandS.ForMost
import HandS.TupSets
import HandS.Strs
import KE.SortData
import HandS.IsInst
import HandS.SetKeys
import HandS.StrMore
import HandS.Star
import HandS.TupAny
import HandS.Wide
import HandS.Style
import HandS.Codes
import HandS.Text
import HandS.ReplaceLit
import HandS.ReplaceDef
import HandS.WordsExc
import HandS.TryOnly
import HandS.SetBool
import HandS.NoneIn
import HandS.Walk
import HandS.Conv
import HandS.More
import KE.LtData
import KE.DataCmp
import HandS.SetFor
import HandS.Lambda
import HandS.TryMany
import HandS.ExcIs
import HandS.Dict
import HandS.Small
import HandS.Deep
import HandS.Exc
import HandS.Comp
import KE.KAsSuite
import KE.GoesComp
import PyProof.P3In
import HandS.Iter
import PyProof.ListStr
import HandS.TupMul
import PySem.Challenge.RW_shownpart_k13_texts_of_facts
set_option Elab.async false
set_option linter.all false
set_option maxRecDepth 100000
set_option maxHeartbeats 4000000
/-! Sets of tuples whose items are ints or texts: made from a list, and counted. -/
namespace Kx
open PySem PySem.Spec PyProof.Rows L2

/-- the tuple at b holds the keys k -/
def TupK (P : Program) (w : World) (h : Heap) (k : List Key) (b : Addr) : Prop := IsTupleKey (mixKind P w) h k b
def hsK (P : Program) (w : World) (k : List Key) : Int := tupleKeyHash (mixKind P w) k
abbrev Row := Addr × List Key
def rowsK (P : Program) (w : World) (L : List Row) : List (Int × Value) := L.map fun p => (hsK P w p.2, Value.ref p.1)
def keysK (L : List Row) : List (List Key) := L.map Prod.snd

/-- the c-th step of the way of h -/
def stp (t : SetTable) (h : Int) (c : Nat) : SetTable.Probe := nth t.mask (runAt t.mask (SetTable.bits h % (t.mask + 1)) (SetTable.bits h)) c
theorem stp_j (t : SetTable) (h : Int) (c : Nat) : (stp t h c).j = way t.mask h c := rfl
theorem stp_add (t : SetTable) (h : Int) (c q : Nat) : nth t.mask (stp t h c) q = stp t h (c + q) := (nth_add t.mask c _ q).symm
theorem nth_nodummy (m : Nat) : ∀ (n : Nat) (p : SetTable.Probe), p.dummy = none → (nth m p n).dummy = none := by
  intro n
  induction n with
  | zero => exact fun p h => h
  | succ n ih =>
    intro p h
    apply ih (adv m p)
    show (adv m p).dummy = none
    simp only [adv]
    split <;> exact h
theorem stp_nodummy (t : SetTable) (h : Int) (c : Nat) : (stp t h c).dummy = none := nth_nodummy _ c _ rfl

section
variable {P : Program} {w : World} {A : Around} {E : Value → Shared → Prop} {s : Shared}

theorem items_plain {k : List Key} {vs : List Value} (h : ItemsAre (mixKind P w) k vs) :
    ∀ v, v ∈ vs → (∃ i t, v = Value.int i t) ∨ ∃ x t, v = Value.str x t := by
  induction h with
  | nil => exact fun v hv => nomatch hv
  | cons h1 _ ih =>
    intro v hv
    rcases List.mem_cons.mp hv with e | hv
    · subst e
      rcases keyIs_shape h1 with ⟨i, t, _, e⟩ | ⟨x, t, _, e⟩
      · exact .inl ⟨i, t, e⟩
      · exact .inr ⟨x, t, e⟩
    · exact ih v hv
/-- a tuple of ints and texts is of no class statement -/
theorem ofClass_tupK {k : List Key} {b : Addr} {Q : Bool → Shared → Prop} (hk : TupK P w s.heap k b) (q : Q false s) :
    wpAny (model P w) A (ofAClassStatement 8 (.ref b)) Q E s := by
  have ty := IsTupleKey.typeIs hk
  obtain ⟨o, its, n, h1, _, h2, h3⟩ := hk
  have pl := items_plain h3
  unfold ofAClassStatement
  apply wpAny_bind (wpAny_typeOf ty _)
  dsimp only
  have tt : (("tuple" : String) == "tuple") = true := by decide
  rw [if_pos tt]
  try apply wpAny_bind (wpAny_pure _)
  simp only [Bool.not_true, Bool.false_eq_true, if_false]
  show wpAny _ _ (seqItems? (.ref b) >>= _) _ _ s
  apply wpAny_bind (wpAny_seqItems h1 h2 _)
  dsimp only
  apply wpAny_bind
  show wpAny _ _ (forIn its _ _) _ _ s
  rw [← Array.forIn_toList]
  apply wpAny_forIn_list _ (fun rest r s' => r.1 = none ∧ s' = s ∧ ∀ v, v ∈ rest → (∃ i t, v = Value.int i t) ∨ ∃ x t, v = Value.str x t) _ _ _ _ _ ⟨rfl, rfl, pl⟩
  · rintro v rest r s' ⟨hr, rfl, hall⟩
    have e0 : ofAClassStatement 7 v = pure false := by
      rcases hall v List.mem_cons_self with ⟨i, t, rfl⟩ | ⟨x, t, rfl⟩ <;> rfl
    rw [e0]
    apply wpAny_bind (wpAny_pure _)
    simp only [Bool.false_eq_true, if_false]
    exact wpAny_pure ⟨rfl, rfl, fun u hu => hall u (List.mem_cons_of_mem _ hu)⟩
  · rintro ⟨r1, r2⟩ s' ⟨hr, rfl, _⟩
    cases hr
    exact wpAny_pure q
/-- whatever is said of a tuple's hash: a Bool, and the state stays -/
theorem byValue_tupK {k : List Key} {b : Addr} {Q : Bool → Shared → Prop} (hk : TupK P w s.heap k b) (q : ∀ c, Q c s) :
    wpAny (model P w) A (hashByValue 8 (.ref b)) Q E s := by
  have ty := IsTupleKey.typeIs hk
  obtain ⟨o, its, n, h1, _, h2, h3⟩ := hk
  have pl := items_plain h3
  unfold hashByValue
  apply wpAny_bind (wpAny_specialOf ty F.slot_tuple_hash.lookup _)
  show wpAny _ _ (seqItems? (.ref b) >>= _) _ _ s
  apply wpAny_bind (wpAny_seqItems h1 h2 _)
  apply wpAny_bind
  show wpAny _ _ (forIn its _ _) _ _ s
  rw [← Array.forIn_toList]
  apply wpAny_forIn_list _ (fun rest r s' => s' = s ∧ ∀ v, v ∈ rest → (∃ i t, v = Value.int i t) ∨ ∃ x t, v = Value.str x t) _ _ _ _ _ ⟨rfl, pl⟩
  · rintro v rest r s' ⟨rfl, hall⟩
    have tl : ∀ v, v ∈ rest → (∃ i t, v = Value.int i t) ∨ ∃ x t, v = Value.str x t := fun u hu => hall u (List.mem_cons_of_mem _ hu)
    have e0 : ∃ c, hashByValue 7 v = pure c := by
      rcases hall v List.mem_cons_self with ⟨i, t, rfl⟩ | ⟨x, t, rfl⟩
      · exact ⟨true, rfl⟩
      · exact ⟨false, rfl⟩
    obtain ⟨c, e0⟩ := e0
    rw [e0]
    apply wpAny_bind (wpAny_pure _)
    cases c
    · simp only [Bool.not_false, if_true]
      exact wpAny_pure (wpAny_pure (q _))
    · simp only [Bool.not_true, Bool.false_eq_true, if_false]
      exact wpAny_pure ⟨rfl, tl⟩
  · rintro ⟨r1, r2⟩ s' ⟨rfl, _⟩
    cases r1
    · exact wpAny_pure (q _)
    · exact wpAny_pure (q _)
/-- a search among such tuples shows nothing -/
theorem unseen_tupK {k : List Key} {b : Addr} {Q : Bool → Shared → Prop} (hk : TupK P w s.heap k b) {ys : List Value}
    (hy : ∀ y, y ∈ ys → ∃ k' c, y = Value.ref c ∧ TupK P w s.heap k' c) (q : Q false s) : wpAny (model P w) A (searchCouldBeSeen (.ref b) ys) Q E s := by
  unfold searchCouldBeSeen
  apply wpAny_bind
  apply wpAny_forIn_list _ (fun rest r s' => r.1 = none ∧ s' = s ∧ ∀ y, y ∈ rest → ∃ k' c, y = Value.ref c ∧ TupK P w s.heap k' c) _ _ _ _ _ ⟨rfl, rfl, hy⟩
  · rintro v rest r s' ⟨hr, rfl, hall⟩
    obtain ⟨k', c, rfl, hc⟩ := hall v List.mem_cons_self
    have tl : ∀ y, y ∈ rest → ∃ k' c, y = Value.ref c ∧ TupK P w s'.heap k' c := fun u hu => hall u (List.mem_cons_of_mem _ hu)
    have fin : wpAny (model P w) A (pure (ForInStep.yield r)) (fun x s1 => match x with
      | .yield b' => b'.1 = none ∧ s1 = s' ∧ ∀ y, y ∈ rest → ∃ k' c, y = Value.ref c ∧ TupK P w s'.heap k' c
      | .done _ => False) E s' := wpAny_pure ⟨hr, rfl, tl⟩
    dsimp only
    by_cases hv : (b == c || (carriedByValue (.ref b) && carriedByValue (.ref c))) = true
    · exact wp_if_pos hv (wpAny_pure ⟨rfl, rfl, tl⟩)
    · apply wp_if_neg hv
      apply wpAny_bind (wpAny_eqIsQuiet_tuple hk _)
      simp only [Bool.not_true, Bool.false_eq_true, if_false]
      apply wpAny_bind (wpAny_eqIsQuiet_tuple hc _)
      simp only [Bool.not_true, Bool.false_eq_true, if_false]
      apply wpAny_bind (ofClass_tupK hk _)
      simp only [Bool.false_eq_true, if_false]
      apply wpAny_bind (ofClass_tupK hc _)
      simp only [Bool.false_eq_true, if_false]
      exact wpAny_pure ⟨rfl, rfl, tl⟩
  · rintro ⟨r1, r2⟩ s' ⟨hr, rfl, _⟩
    cases hr
    exact wpAny_pure q

/-- the set at a: its members, its table -/
structure SetK (P : Program) (w : World) (h : Heap) (a : Addr) (L : List Row) (es : Array (Int × Value)) (ep : Nat) (t : SetTable) : Prop where
  obj : ∃ o, h.get? a = some o ∧ o.ExactSet ∧ o.data = .set es ep t
  rws : es.toList = rowsK P w L
  tbl : TabOk t (L.map fun p => hsK P w p.2)
  uni : (keysK L).Nodup
  mem : ∀ p, p ∈ L → TupK P w h p.2 p.1
  rom : L.length * 5 < t.mask * 3
  low : L.length < 64
variable {a : Addr} {L : List Row} {es : Array (Int × Value)} {ep : Nat} {t : SetTable}
theorem rowsK_len {es : Array (Int × Value)} {L : List Row} (h : es.toList = rowsK P w L) : es.size = L.length := by
  have e : es.toList.length = (rowsK P w L).length := by rw [h]
  simpa [rowsK] using e
theorem rowsK_get {es : Array (Int × Value)} {L : List Row} (h : es.toList = rowsK P w L) {i : Nat} {p : Row} (hp : L[i]? = some p) : es[i]? = some (hsK P w p.2, Value.ref p.1) := by
  have e : es.toList[i]? = some (hsK P w p.2, Value.ref p.1) := by
    rw [h]
    simp [rowsK, hp]
  rwa [Array.getElem?_toList] at e
theorem fits_of {t : SetTable} {n m : Nat} (h1 : t.dummies = #[]) (h2 : t.place.size = n) (h3 : n ≤ t.mask) : t.fits n = true := by
  simp only [SetTable.fits, SetTable.fill, h1, h2]
  simp
  exact h3
theorem SetK.fit (R : SetK P w s.heap a L es ep t) : t.fits es.size = true := by
  have z := rowsK_len R.rws
  have y := R.tbl.sz
  have x := R.rom
  rw [List.length_map] at y
  exact fits_of (m := 0) R.tbl.dm (by omega) (by omega)
theorem SetK.stays (R : SetK P w s.heap a L es ep t) : ¬ t.gaveWay = true := by
  simp only [SetTable.gaveWay, mask_odd R.tbl.mok]
  decide

/-- a search, from the c-th step of the way on; K: the first empty slot -/
theorem searchK (R : SetK P w s.heap a L es ep t) {x : Addr} {k : List Key} (hx : TupK P w s.heap k x) (hu : A.units < cLine) {K : Nat} (hf : K < 10 * SetTable.turns t.mask)
    (hK : way t.mask (hsK P w k) K ∉ t.place.toList) (hb : ∀ c, c < K → way t.mask (hsK P w k) c ∈ t.place.toList) {Q : SetFound → Shared → Prop}
    (yes : k ∈ keysK L → Q (.there none) s) (no : k ∉ keysK L → Q (.free (way t.mask (hsK P w k) K) false) s) :
    ∀ (f c : Nat) (st : Option SetTable.Probe), st.getD (t.probeStart (hsK P w k)) = stp t (hsK P w k) c → c ≤ K → K - c < f →
      (∀ (i : Nat) p, L[i]? = some p → p.2 = k → ∃ d, c ≤ d ∧ d < K ∧ t.place.toList[i]? = some (way t.mask (hsK P w k) d)) →
      wpAny (model P w) A (setSearchFrom a (.ref x) (hsK P w k) true f st) Q E s := by
  intro f
  induction f with
  | zero => exact fun c st _ _ h => absurd h (Nat.not_lt_zero _)
  | succ f ih =>
  intro c st hst hc hlt hre
  obtain ⟨o, ho, hex, hd⟩ := R.obj
  generalize hH : hsK P w k = Z at *
  rw [setSearchFrom_succ]
  apply wpAny_bind (wpAny_setState_of ho hd R.fit _)
  dsimp only
  apply wp_if_neg R.stays
  try apply wpAny_bind (wpAny_pure _)
  have jw : ∀ q, (nth t.mask (stp t Z c) q).j = way t.mask Z (c + q) := fun q => by rw [stp_add, stp_j]
  have eK : c + (K - c) = K := by omega
  have at_ : ∀ (i : Nat) p, L[i]? = some p → (fun i => (es[i]?.map (·.1)).getD 0) i = hsK P w p.2 := fun i p hp => by
    simp only [rowsK_get R.rws hp, Option.map_some, Option.getD_some]
  rcases go_spec t R.tbl.ris R.tbl.dm (fun i => (es[i]?.map (·.1)).getD 0) Z (10 * SetTable.turns t.mask) (K - c) (stp t Z c) (stp_nodummy t Z c) (by omega)
      (fun q hq => by rw [jw]; exact hb _ (by omega)) (by rw [jw, eK]; exact hK) with ⟨q, i, hq, hi, hh, hno, hpr⟩ | ⟨hno, hpr⟩
  · -- a candidate at the (c + q)-th step
    rw [jw] at hi
    have pr : t.probe (fun i => (es[i]?.map (·.1)).getD 0) Z (st.getD (t.probeStart Z)) = some (.candidate (way t.mask Z (c + q)) i (stp t Z (c + (q + 1)))) := by
      rw [hst, ← jw, ← stp_add]
      exact hpr
    rw [pr]
    dsimp only
    have hil : i < L.length := by
      have h1 := (List.getElem?_eq_some_iff.mp hi).1
      have h2 := R.tbl.sz
      rw [List.length_map] at h2
      rw [Array.length_toList, h2] at h1
      exact h1
    obtain ⟨p, hp⟩ : ∃ p, L[i]? = some p := ⟨L[i], List.getElem?_eq_getElem hil⟩
    have pm : p ∈ L := List.mem_of_getElem? hp
    have pe := rowsK_get R.rws hp
    have sl : t.slot (way t.mask Z (c + q)) = .live i := slot_live R.tbl.ris hi
    have go : wpAny (model P w) A (searchRest a (.ref x) Z true f es t (way t.mask Z (c + q)) i (stp t Z (c + (q + 1)))) Q E s := by
      unfold searchRest
      rw [pe]
      dsimp only
      apply wpAny_bind (wpAny_holding (wpAny_eqBool_tuple hu (R.mem p pm) hx _))
      apply wpAny_bind (wpAny_setState_of ho hd R.fit _)
      dsimp only
      by_cases hpk : p.2 = k
      · exact wp_if_pos (by simp [hpk]) (wpAny_pure (yes (List.mem_map.mpr ⟨p, pm, hpk⟩)))
      · apply wp_if_neg (by simp [hpk])
        try apply wpAny_bind (wpAny_pure _)
        rw [sameMem]
        dsimp only
        simp only [if_true, sl, pe]
        apply wpAny_bind (wpAny_isSame_ref_self (wpAny_bind (wpAny_pure _)))
        simp only [if_true]
        apply wp_if_neg (by simp [hpk])
        apply ih (c + (q + 1)) _ rfl (by omega) (by omega)
        intro i0 p0 h0 hk0
        obtain ⟨d, d1, d2, d3⟩ := hre i0 p0 h0 hk0
        refine ⟨d, ?_, d2, d3⟩
        have z0 : hsK P w p0.2 = Z := by rw [hk0, hH]
        by_cases z : d < c + q
        · exact absurd ((at_ i0 p0 h0).trans z0) (hno (d - c) i0 (by omega) (by rw [jw, show c + (d - c) = d by omega]; exact d3))
        · by_cases y : d = c + q
          · subst y
            have s0 := slot_live R.tbl.ris d3
            rw [sl] at s0
            injection s0 with s0
            subst s0
            rw [hp] at h0
            exact absurd ((congrArg Prod.snd (Option.some.inj h0)).trans hk0) hpk
          · omega
    by_cases hl : t.led = true
    · apply wp_if_neg (by simp [hl])
      try apply wpAny_bind (wpAny_pure _)
      exact go
    · apply wp_if_pos (by simp [hl])
      apply wpAny_bind (unseen_tupK hx _ _)
      · intro y hy
        obtain ⟨e, he, rfl⟩ := List.mem_map.mp hy
        have he2 : e ∈ es.toList := by simpa using (by simpa using he : e ∈ es ∧ e.1 = Z).1
        rw [R.rws] at he2
        obtain ⟨p2, hp2, rfl⟩ := List.mem_map.mp he2
        exact ⟨p2.2, p2.1, rfl, R.mem p2 hp2⟩
      · apply wp_if_neg (by decide)
        try apply wpAny_bind (wpAny_pure _)
        exact go
  · -- the empty slot
    have pr : t.probe (fun i => (es[i]?.map (·.1)).getD 0) Z (st.getD (t.probeStart Z)) = some (.empty (way t.mask Z K) none) := by
      have e2 : (nth t.mask (stp t Z c) (K - c)).j = way t.mask Z K := by rw [jw, eK]
      rw [hst, ← e2]
      exact hpr
    rw [pr]
    dsimp only
    apply wpAny_pure (no _)
    intro hm
    obtain ⟨p0, h0, hk0⟩ := List.mem_map.mp hm
    obtain ⟨i0, hi0⟩ := List.mem_iff_getElem?.mp h0
    obtain ⟨d, d1, d2, d3⟩ := hre i0 p0 hi0 hk0
    exact hno (d - c) i0 (by omega) (by rw [jw, show c + (d - c) = d by omega]; exact d3) ((at_ i0 p0 hi0).trans (by rw [show p0.2 = k from hk0, hH]))
/-- the search that adding asks for -/
theorem searchK0 (R : SetK P w s.heap a L es ep t) {x : Addr} {k : List Key} (hx : TupK P w s.heap k x) (hu : A.units < cLine) {Q : SetFound → Shared → Prop}
    (yes : k ∈ keysK L → Q (.there none) s)
    (no : ∀ K, k ∉ keysK L → way t.mask (hsK P w k) K ∉ t.place.toList → (∀ c, c < K → way t.mask (hsK P w k) c ∈ t.place.toList) → Q (.free (way t.mask (hsK P w k) K) false) s) :
    wpAny (model P w) A (setSearch a (.ref x) (hsK P w k) true) Q E s := by
  have rm := R.rom
  obtain ⟨K, hf, hK, hb⟩ := R.tbl.first (by rw [List.length_map]; omega) (hsK P w k)
  have big : K < 100000 := by
    refine Nat.lt_trans hf ?_
    unfold SetTable.turns
    rcases R.tbl.mok with e | e | e <;> rw [e] <;> decide
  unfold setSearch
  apply searchK R hx hu hf hK hb yes (fun hn => no K hn hK hb) 100000 0 none rfl (Nat.zero_le _) (by omega)
  intro i p hp hk
  have hl : i < t.place.toList.length := by
    have h1 := (List.getElem?_eq_some_iff.mp hp).1
    have h2 := R.tbl.sz
    rw [List.length_map] at h2
    rw [Array.length_toList]
    omega
  have hj := List.getElem?_eq_getElem hl
  have hi : (L.map fun p => hsK P w p.2)[i]? = some (hsK P w k) := by simp [hp, hk]
  obtain ⟨c, hc, e⟩ := R.tbl.before hK hi hj
  exact ⟨c, Nat.zero_le _, hc, by rw [hj, e]⟩

/-- a tuple stands while the set changes -/
theorem TupK.but {h h' : Heap} {k : List Key} {a b : Addr} {o : Obj} {es : Array (Int × Value)} {ep : Nat} {t : SetTable} (hb : TupK P w h k b) (ho : h.get? a = some o) (hd : o.data = .set es ep t) (hs : Heap.SameBut a h h') : TupK P w h' k b := by
  obtain ⟨u, its, n, h1, h2, h3, h4⟩ := hb
  have ne : b ≠ a := fun e => by
    subst e
    rw [h1] at ho
    cases ho
    rw [h3] at hd
    cases hd
  exact ⟨u, its, n, (hs.2 b ne).trans h1, h2, h3, h4⟩
theorem TupK.kept {h h' : Heap} {k : List Key} {b : Addr} (x : TupK P w h k b) (hk : ∀ c o, h.get? c = some o → h'.get? c = some o) : TupK P w h' k b := by
  obtain ⟨u, its, n, h1, r⟩ := x
  exact ⟨u, its, n, hk _ _ h1, r⟩
theorem ins_perm {α : Type} (L : List α) (p : Nat) (x : α) : (L.take p ++ x :: L.drop p).Perm (x :: L) :=
  List.perm_middle.trans (by rw [List.take_append_drop])
theorem range_get {α : Type} (L : List α) : (List.range L.length).filterMap (fun i => L[i]?) = L := by
  have key : ∀ n, n ≤ L.length → (List.range n).filterMap (fun i => L[i]?) = L.take n := by
    intro n
    induction n with
    | zero => exact fun _ => rfl
    | succ n ih =>
      intro hn
      have e := List.getElem?_eq_getElem (show n < L.length from hn)
      rw [List.range_succ, List.filterMap_append, ih (by omega), List.take_succ, e]
      simp [e]
  rw [key _ (Nat.le_refl _), List.take_length]
/-- the rows in another order -/
theorem rows_order (L : List Row) (es : Array (Int × Value)) (ord : Array Nat) (hr : es.toList = rowsK P w L) (hp : ord.toList.Perm (List.range L.length)) :
    ∃ L2, (ord.filterMap (es[·]?)).toList = rowsK P w L2 ∧ L2.Perm L ∧ (L2.map fun p => hsK P w p.2) = ord.toList.map fun i => (es.map (·.1)).getD i 0 := by
  have sz := rowsK_len hr
  have key : ∀ l : List Nat, (∀ i, i ∈ l → i < L.length) → l.filterMap (fun i => es[i]?) = rowsK P w (l.filterMap fun i => L[i]?) ∧
      ((l.filterMap fun i => L[i]?).map fun p => hsK P w p.2) = l.map fun i => (es.map (·.1)).getD i 0 := by
    intro l
    induction l with
    | nil => exact fun _ => ⟨rfl, rfl⟩
    | cons i l ih =>
      intro hl
      have hi := List.getElem?_eq_getElem (hl i List.mem_cons_self)
      obtain ⟨e1, e2⟩ := ih fun j hj => hl j (List.mem_cons_of_mem _ hj)
      have ee := rowsK_get hr hi
      constructor
      · rw [List.filterMap_cons_some ee, List.filterMap_cons_some hi, e1]
        rfl
      · rw [List.filterMap_cons_some hi, List.map_cons, List.map_cons, e2]
        have e3 : (es.map (·.1))[i]? = some (hsK P w (L[i]'(hl i List.mem_cons_self)).2) := by rw [Array.getElem?_map, ee]; rfl
        rw [show (es.map (·.1)).getD i 0 = hsK P w (L[i]'(hl i List.mem_cons_self)).2 by simp [Array.getD_eq_getD_getElem?, e3]]
  obtain ⟨e1, e2⟩ := key ord.toList fun i hi => List.mem_range.mp (hp.mem_iff.mp hi)
  refine ⟨ord.toList.filterMap fun i => L[i]?, ?_, ?_, e2⟩
  · rw [Array.toList_filterMap]
    exact e1
  · have z := hp.filterMap (fun i => L[i]?)
    rw [range_get] at z
    exact z

/-- the table laid anew -/
theorem relayK {o : Obj} (ho : s.heap.get? a = some o) (hex : o.ExactSet) (hd : o.data = .set es ep t) (hr : es.toList = rowsK P w L) (hsz : t.place.size = es.size) (hdm : t.dummies = #[]) (hfl : es.size ≤ t.mask)
    (uni : (keysK L).Nodup) (mem : ∀ p, p ∈ L → TupK P w s.heap p.2 p.1) (low : L.length < 64) {wn M : Nat}
    (hw : SetTable.sizeAbove wn - 1 = M) (hM : MaskOk M) (hw2 : SetTable.sizeAbove wn ≤ 128) (hn : L.length * 5 < M * 3) {Q : Unit → Shared → Prop}
    (q : ∀ h' L' es' ep' t', Heap.SameBut a s.heap h' → SetK P w h' a L' es' ep' t' → L'.Perm L → Q () { s with heap := h' }) : wpAny (model P w) A (setRelay a wn) Q E s := by
  have hsl := rowsK_len hr
  obtain ⟨t', ord, e, hp, T, em, _, _, _⟩ := relaid_ok t (hs := es.map (·.1)) (wanted := wn) hw hM (by rw [Array.size_map, hsl]; omega)
  rw [Array.size_map, hsl] at hp
  obtain ⟨L2, r1, r2, r3⟩ := rows_order L es ord hr hp
  have hs2 : (ord.filterMap (es[·]?)).size = L.length := by rw [rowsK_len r1, r2.length_eq]
  rw [← r3] at T
  rw [setRelay_eq]
  apply wpAny_bind (wpAny_setState_of ho hd (fits_of (m := 0) hdm hsz hfl) _)
  dsimp only
  apply wp_if_neg (by rw [sizeLine_eq]; omega)
  try apply wpAny_bind (wpAny_pure _)
  rw [e]
  dsimp only
  apply wpAny_bind
  apply wp_if_neg (by rw [hs2, hsl]; simp)
  try apply wpAny_bind (wpAny_pure _)
  apply wpAny_pure
  dsimp only
  apply wpAny_storeSet_of ho hd _ (by rw [hs2, sizeLine_eq]; omega)
  have sb : Heap.SameBut a s.heap (s.heap.update a (Obj.putSet (ord.filterMap (es[·]?)) t')) := Heap.SameBut.update ..
  apply q _ L2 (ord.filterMap (es[·]?)) (ep + 1) t' sb _ r2
  exact ⟨⟨_, store_at ho hd, ⟨hex.1, hex.2.1, hex.2.2⟩, rfl⟩, r1, T, (r2.map Prod.snd).nodup_iff.mpr uni, fun p hpm => TupK.but (mem p (r2.mem_iff.mp hpm)) ho hd sb, by rw [r2.length_eq, em]; exact hn, by rw [r2.length_eq]; exact low⟩

/-- a member more -/
theorem addK (R : SetK P w s.heap a L es ep t) {x : Addr} {k : List Key} (hx : TupK P w s.heap k x) (hu : A.units < cLine) (few : k ∉ keysK L → L.length + 1 < 64) {Q : Bool → Shared → Prop}
    (q : ∀ b h' L' es' ep' t', Heap.SameBut a s.heap h' → SetK P w h' a L' es' ep' t' → (k ∈ keysK L → L' = L) → (k ∉ keysK L → L'.Perm ((x, k) :: L)) → Q b { s with heap := h' }) :
    wpAny (model P w) A (setAddHashed a (.ref x) (hsK P w k)) Q E s := by
  obtain ⟨o, ho, hex, hd⟩ := R.obj
  have hsl := rowsK_len R.rws
  have rm := R.rom
  unfold setAddHashed
  apply wpAny_holding
  rw [show (100000 : Nat) = 99999 + 1 from rfl, setAddHashedIn_succ]
  apply wpAny_bind (wpAny_setState_of ho hd R.fit _)
  dsimp only
  apply wp_if_neg (by simp [byScan, Value.scannable])
  try apply wpAny_bind (wpAny_pure _)
  apply wpAny_bind (searchK0 R hx hu _ _)
  · intro hm
    dsimp only
    exact wpAny_pure (q false s.heap L es ep t (Heap.SameBut.refl a s.heap) R (fun _ => rfl) fun z => absurd hm z)
  intro K hm hK hb
  have few := few hm
  dsimp only
  apply wpAny_bind (wpAny_setState_of ho hd R.fit _)
  dsimp only
  obtain ⟨q1, q2, q3, q4, _, _, _, _, q9⟩ := R.tbl.put hK hb
  generalize hpt : t.put (way t.mask (hsK P w k) K) = pt at q1 q3 q4 q9 ⊢
  obtain ⟨t1, p⟩ := pt
  dsimp only at q1 q3 q4 q9 ⊢
  subst q1
  generalize hpp : SetTable.below t.place (way t.mask (hsK P w k) K) = p at *
  have ins : (SetTable.insertAt es p (hsK P w k, Value.ref x)).toList = rowsK P w (L.take p ++ (x, k) :: L.drop p) := by
    rw [SetTable.toList_insertAt, R.rws]
    simp [rowsK]
  have pm := ins_perm L p (x, k)
  have len1 : (L.take p ++ (x, k) :: L.drop p).length = L.length + 1 := pm.length_eq
  have T1 : TabOk t1 ((L.take p ++ (x, k) :: L.drop p).map fun p => hsK P w p.2) := by
    have e : (L.take p ++ (x, k) :: L.drop p).map (fun p => hsK P w p.2) = (L.map fun p => hsK P w p.2).take p ++ hsK P w k :: (L.map fun p => hsK P w p.2).drop p := by simp
    rw [e]
    exact q3
  have uni1 : (keysK (L.take p ++ (x, k) :: L.drop p)).Nodup := (pm.map Prod.snd).nodup_iff.mpr (List.nodup_cons.mpr ⟨hm, R.uni⟩)
  have sz1 := rowsK_len ins
  rw [len1] at sz1
  generalize SetTable.insertAt es p (hsK P w k, Value.ref x) = es1 at *
  generalize L.take p ++ (x, k) :: L.drop p = L1 at *
  have main : ∀ t2 : SetTable, t2.place = t1.place → t2.dummies = t1.dummies → t2.mask = t1.mask → t2.fill = t1.fill →
      wpAny (model P w) A (do
        storeSet a es1 t2
        if !false && t2.tooFull then setRelay a (SetTable.grown (es.size + 1))
        return true) Q E s := by
    intro t2 f1 f2 f3 f4
    have T2 : TabOk t2 (L1.map fun p => hsK P w p.2) := by
      obtain ⟨a1, a2, a3, a4, a5, a6⟩ := T1
      exact ⟨by rw [f1]; exact a1, by rw [f2]; exact a2, by rw [f1]; exact a3, by rw [f3]; exact a4, by rw [f1, f3]; exact a5, by rw [f1, f3]; exact a6⟩
    apply wpAny_bind (wpAny_storeSet_of ho hd _ (by rw [sz1, sizeLine_eq]; omega))
    have sb : Heap.SameBut a s.heap (s.heap.update a (Obj.putSet es1 t2)) := Heap.SameBut.update ..
    have ho1 := store_at (es' := es1) (t' := t2) ho hd
    generalize s.heap.update a (Obj.putSet es1 t2) = h1 at sb ho1 ⊢
    have mem1 : ∀ p, p ∈ L1 → TupK P w h1 p.2 p.1 := fun p hp => by
      rcases List.mem_cons.mp (pm.mem_iff.mp hp) with e | hp
      · rw [e]; exact TupK.but hx ho hd sb
      · exact TupK.but (R.mem p hp) ho hd sb
    have fl : t2.tooFull = decide (t2.fill * 5 ≥ t2.mask * 3) := rfl
    rw [f4, q9, List.length_map] at fl
    by_cases hf : t2.tooFull = true
    · rw [hf]
      rw [hf] at fl
      have full : (L.length + 1) * 5 ≥ t2.mask * 3 := of_decide_eq_true fl.symm
      have two : (t2.mask = 7 ∧ L.length = 4) ∨ (t2.mask = 31 ∧ L.length = 18) := by
        rw [f3, q4] at full ⊢
        rcases R.tbl.mok with e | e | e <;> rw [e] at full rm ⊢ <;> omega
      have go : ∀ M, SetTable.sizeAbove (SetTable.grown (L.length + 1)) - 1 = M → MaskOk M → SetTable.sizeAbove (SetTable.grown (L.length + 1)) ≤ 128 → (L.length + 1) * 5 < M * 3 →
          wpAny (model P w) A (setRelay a (SetTable.grown (L.length + 1))) (fun _ s' => wpAny (model P w) A (pure true) Q E s') E { s with heap := h1 } := by
        intro M a1 a2 a3 a4
        apply relayK (s := { s with heap := h1 }) ho1 ⟨hex.1, hex.2.1, hex.2.2⟩ rfl ins (by rw [T2.sz, List.length_map, len1, sz1]) T2.dm (by rw [sz1]; rcases two with ⟨e, e2⟩ | ⟨e, e2⟩ <;> omega) uni1 mem1 (by rw [len1]; exact few) a1 a2 a3 (by rw [len1]; exact a4)
        intro h2 L2 es2 ep2 t3 sb2 R2 pm2
        exact wpAny_pure (q true h2 L2 es2 ep2 t3 (sb.trans sb2) R2 (fun z => absurd z hm) fun _ => pm2.trans pm)
      simp only [Bool.not_false, Bool.and_self, if_true]
      apply wpAny_bind
      rw [hsl]
      rcases two with ⟨_, e2⟩ | ⟨_, e2⟩
      · exact go 31 (by rw [e2, size_20]) (.inr (.inl rfl)) (by rw [e2, size_20]; decide) (by omega)
      · exact go 127 (by rw [e2, size_76]) (.inr (.inr rfl)) (by rw [e2, size_76]; decide) (by omega)
    · have hf' : t2.tooFull = false := by simpa using hf
      rw [hf']
      rw [hf'] at fl
      have nf : ¬ (L.length + 1) * 5 ≥ t2.mask * 3 := of_decide_eq_false fl.symm
      simp only [Bool.and_false, Bool.false_eq_true, if_false]
      try apply wpAny_bind (wpAny_pure _)
      exact wpAny_pure (q true h1 L1 es1 (ep + 1) t2 sb ⟨⟨_, ho1, ⟨hex.1, hex.2.1, hex.2.2⟩, rfl⟩, ins, T2, uni1, mem1, by rw [len1]; omega, by rw [len1]; exact few⟩ (fun z => absurd z hm) fun _ => pm)
  by_cases hp : t1.plain = true
  · first
      | apply wp_if_pos hp (wpAny_bind (byValue_tupK hx _))
      | (apply wpAny_bind; apply wp_if_pos hp (byValue_tupK hx _))
    intro c
    cases c
    · exact main { t1 with plain := false } rfl rfl rfl rfl
    · exact main t1 rfl rfl rfl rfl
  · first
      | apply wp_if_neg hp (wpAny_bind (wpAny_pure _))
      | (apply wpAny_bind; apply wp_if_neg hp (wpAny_pure _))
    exact main t1 rfl rfl rfl rfl

/-- what the set has got from the first i items -/
structure Had (ks : List Row) (i : Nat) (L : List Row) : Prop where
  sub : ∀ p, p ∈ L → p ∈ ks.take i
  all : ∀ p, p ∈ ks.take i → p.2 ∈ keysK L
  len : L.length ≤ i
theorem Had.nil (ks : List Row) : Had ks 0 [] := ⟨fun _ h => (nomatch h), fun _ h => (by simp at h), Nat.le_refl _⟩
theorem take_one {α : Type} {l : List α} {i : Nat} {x : α} (h : l[i]? = some x) : l.take (i + 1) = l.take i ++ [x] := by
  simp [List.take_succ, h]
theorem Had.next {ks L L' : List Row} {i : Nat} {x : Row} (g : Had ks i L) (h : ks[i]? = some x) (c1 : x.2 ∈ keysK L → L' = L) (c2 : x.2 ∉ keysK L → L'.Perm (x :: L)) : Had ks (i + 1) L' := by
  by_cases c : x.2 ∈ keysK L
  · rw [c1 c]
    refine ⟨fun p hp => ?_, fun p hp => ?_, Nat.le_succ_of_le g.len⟩
    · rw [take_one h]
      exact List.mem_append_left _ (g.sub p hp)
    · rw [take_one h, List.mem_append, List.mem_singleton] at hp
      rcases hp with z | z
      · exact g.all p z
      · rw [z]; exact c
  · have pm := c2 c
    refine ⟨fun p hp => ?_, fun p hp => ?_, by rw [pm.length_eq]; exact Nat.succ_le_succ g.len⟩
    · rw [take_one h]
      rcases List.mem_cons.mp (pm.mem_iff.mp hp) with e | z
      · exact List.mem_append_right _ (by rw [e]; exact List.mem_singleton.mpr rfl)
      · exact List.mem_append_left _ (g.sub p z)
    · rw [keysK, (pm.map Prod.snd).mem_iff, List.map_cons]
      rw [take_one h, List.mem_append, List.mem_singleton] at hp
      rcases hp with z | z
      · exact List.mem_cons_of_mem _ (g.all p z)
      · rw [z]; exact List.mem_cons_self
theorem SetK.moved {h h' : Heap} (R : SetK P w h a L es ep t) (ha : ∀ o, h.get? a = some o → h'.get? a = some o) (ht : ∀ p, p ∈ L → TupK P w h' p.2 p.1) : SetK P w h' a L es ep t := by
  obtain ⟨o, ho, r⟩ := R.obj
  exact ⟨⟨o, ha o ho, r⟩, R.rws, R.tbl, R.uni, ht, R.rom, R.low⟩
/-- a new set's object -/
def set0 (b : Bool) : Obj := { cls := .type "set", dict := none, data := .set #[] 0 (.fresh 0 0 b) }
theorem setK_new {h : Heap} {b : Bool} (ho : h.get? a = some (set0 b)) : SetK P w h a [] #[] 0 (.fresh 0 0 b) :=
  ⟨⟨_, ho, ⟨rfl, rfl, rfl⟩, rfl⟩, rfl, ⟨List.Pairwise.nil, rfl, rfl, .inl rfl, fun _ hx => (nomatch hx), fun i z j hi => (by simp at hi)⟩, List.nodup_nil, fun _ hp => (nomatch hp), (by decide : 0 * 5 < 7 * 3), (by decide : 0 < 64)⟩

/-- few different ones -/
def Few (ks : List Row) : Prop := ∀ D : List (List Key), D.Nodup → (∀ k, k ∈ D → k ∈ keysK ks) → D.length < 64
theorem nodup_le {α : Type} [DecidableEq α] : ∀ (l D : List α), D.Nodup → (∀ x, x ∈ D → x ∈ l) → D.length ≤ l.length
  | [], D, _, h => by
    have : D = [] := List.eq_nil_iff_forall_not_mem.mpr fun z hz => by simpa using h z hz
    rw [this]
    exact Nat.le_refl _
  | a :: r, D, nd, h => by
    by_cases aD : a ∈ D
    · have e := nodup_le r (D.erase a) (nd.erase a) fun z hz => by
        rw [nd.mem_erase_iff] at hz
        exact (List.mem_cons.mp (h z hz.2)).elim (fun e => absurd e hz.1) id
      rw [List.length_erase_of_mem aD] at e
      rw [List.length_cons]
      omega
    · have e := nodup_le r D nd fun z hz => (List.mem_cons.mp (h z hz)).elim (fun e => absurd (by rw [← e]; exact hz) aD) id
      rw [List.length_cons]
      omega
theorem few_of {ks : List Row} (h : ks.length < 64) : Few ks := fun D nd hD => by
  have e := nodup_le (keysK ks) D nd hD
  have : (keysK ks).length = ks.length := by simp [keysK]
  omega
/-- the loop of set.update over a list of tuples -/
theorem loopK {I : Addr} {fp wr : List Addr} {G : Array GenState → Array GenState → Prop} {n : Nat} {Pv : Nat → Value → Prop} {St : Nat → Shared → Prop} {R : Result → Shared → Prop}
    (W : WalksS P w A.in1 I fp wr G n Pv St) (S : Addr) (nS : S ∉ fp) (ks : List Row) (hn : n = ks.length) (few : Few ks) (val : ∀ i v, Pv i v → ∃ p, ks[i]? = some p ∧ v = .ref p.1)
    (g0 : Heap) (hk : ∀ p, p ∈ ks → TupK P w g0 p.2 p.1) (n0 : g0.get? S = none) (w0 : ∀ b, b ∈ wr → g0.get? b = none) (hu : A.in1.units < cLine) :
    ∀ (m i : Nat) (s : Shared), n - i = m → i ≤ n → St i s → (∀ b o, g0.get? b = some o → s.heap.get? b = some o) → (∃ L es ep t, SetK P w s.heap S L es ep t ∧ Had ks i L) →
      (∀ s' L es ep t, Moved (S :: wr) G s s' → SetK P w s'.heap S L es ep t → Had ks n L → (∀ b o, g0.get? b = some o → s'.heap.get? b = some o) → R (.ok (.ret .none)) s') →
      codeAny (model P w) A (.builtin "set.update.loop" ⟨[.ref S, .ref I], []⟩) R s := by
  have sw : S ∉ wr := fun h => nS (W.sub _ h)
  have up : ∀ b, b ∈ wr → b ∈ S :: wr := fun b hb => List.mem_cons_of_mem _ hb
  have kp : ∀ {s s' : Shared}, Moved wr G s s' → (∀ b o, g0.get? b = some o → s.heap.get? b = some o) → ∀ b o, g0.get? b = some o → s'.heap.get? b = some o := fun hm h b o e =>
    hm.heap b o (fun hb => by rw [w0 b hb] at e; cases e) (h b o e)
  intro m
  induction m with
  | zero =>
    intro i s hm hi hst hkp ⟨L, es, ep, t, hS, g⟩ hR
    obtain rfl : i = n := by omega
    apply codeAny_builtin F.entry_set_update_loop
    rw [Around.under_plainId F.plain_set_update_loop _]
    show wpAny _ A.in1 (pyNext (.ref I) >>= _) _ _ s
    apply wpAny_bind (W.done s _ _ hst _)
    intro s' mv
    show wpAny _ A.in1 (ret Value.none) _ _ s'
    have k2 := kp mv hkp
    exact wpAny_pure (hR s' L es ep t (mv.mono up) (hS.moved (fun o e => mv.heap S o sw e) fun p hp => TupK.kept (hk p (List.mem_of_mem_take (g.sub p hp))) k2) g k2)
  | succ m ih =>
    intro i s hm hi hst hkp ⟨L, es, ep, t, hS, g⟩ hR
    have lt : i < n := by omega
    apply codeAny_builtin F.entry_set_update_loop
    rw [Around.under_plainId F.plain_set_update_loop _]
    show wpAny _ A.in1 (pyNext (.ref I) >>= _) _ _ s
    apply wpAny_bind (W.item i s _ _ lt hst _)
    intro v s' hP hst' mv
    obtain ⟨p, hp, rfl⟩ := val i v hP
    have k2 := kp mv hkp
    have hS' : SetK P w s'.heap S L es ep t := hS.moved (fun o e => mv.heap S o sw e) fun q hq => TupK.kept (hk q (List.mem_of_mem_take (g.sub q hq))) k2
    have hx : TupK P w s'.heap p.2 p.1 := TupK.kept (hk p (List.mem_of_getElem? hp)) k2
    show wpAny _ A.in1 (holding [Value.ref p.1] (setAdd S (.ref p.1)) >>= _) _ _ s'
    apply wpAny_bind (wpAny_holding _)
    unfold setAdd
    apply wpAny_holding
    apply wpAny_bind (wpAny_pyHash_tuple hu hx _)
    apply addK (s := { s' with toks := s'.toks + (p.2.length + 1) }) hS' hx hu (fun nk => by
      have z := few (keysK L ++ [p.2]) (by
        rw [List.nodup_append]
        refine ⟨hS'.uni, by simp, fun a ha b hb => ?_⟩
        rw [List.mem_singleton.mp hb]
        rintro rfl
        exact nk ha) fun k hk2 => by
        rcases List.mem_append.mp hk2 with hk2 | hk2
        · obtain ⟨q, hq, rfl⟩ := List.mem_map.mp hk2
          exact List.mem_map.mpr ⟨q, List.mem_of_mem_take (g.sub q hq), rfl⟩
        · rw [List.mem_singleton.mp hk2]
          exact List.mem_map.mpr ⟨p, List.mem_of_getElem? hp, rfl⟩
      have zl : (keysK L).length = L.length := by simp [keysK]
      rw [List.length_append, zl] at z
      exact z)
    intro b h' L' es' ep' t' sb hS2 c1 c2
    have k3 : ∀ b o, g0.get? b = some o → h'.get? b = some o := fun b o e => (sb.2 b (fun z => by rw [z, n0] at e; cases e)).trans (k2 b o e)
    have fr := W.frame (i + 1) s' h' (s'.toks + (p.2.length + 1)) hst' (Nat.le_add_right _ _) fun b hb o e => by
      rw [sb.2 b (fun h : b = S => nS (by rw [← h]; exact hb))]; exact e
    apply wpAny_pure
    refine ⟨plainId_quiet F.plain_set_update_loop _, ih (i + 1) _ (by omega) lt fr k3 ⟨L', es', ep', t', hS2, g.next hp c1 c2⟩ fun s'' L2 es2 ep2 t2 mv2 hS3 g3 k4 => ?_⟩
    refine hR s'' L2 es2 ep2 t2 (Moved.trans W.gtrans ((mv.mono up).then_heap (Nat.le_add_right _ _) fun b o hb e => ?_) mv2) hS3 g3 k4
    rw [sb.2 b fun h => hb (by rw [h]; exact List.mem_cons_self)]
    exact e

/-- what the loop of set(xs) does -/
structure SetLoop (P : Program) (w : World) (A : Around) (s : Shared) (l : Addr) (Post : Heap → Prop) : Prop where
  run : ∀ (led : Bool) (R : Result → Shared → Prop), (w.params.followText "set-order" = true ∨ led = true) → (∀ h' tk, Post h' → (∀ b o, s.heap.get? b = some o → h'.get? b = some o) → R (.ok (.ret .none)) { s with heap := h', toks := tk }) →
    codeAny (model P w) A.in1.in1 (.builtin "set.update.loop" ⟨[.ref s.heap.objs.size, .ref (s.heap.push (set0 led)).objs.size], []⟩) R
      { s with heap := (s.heap.push (set0 led)).push { cls := .type "list_iterator", data := .fields #[.ref l, .int 0 0] } }
structure SetGoal (s : Shared) (Post : Heap → Prop) (Q : Value → Shared → Prop) : Prop where
  out : ∀ (h' : Heap) (tk : Nat), Post h' → (∀ b o, s.heap.get? b = some o → h'.get? b = some o) → Q (.ref s.heap.objs.size) { s with heap := h', toks := tk }
/-- set(xs), by what its loop does -/
theorem call_set_gen {l : Addr} {its : Array Value} (Post : Heap → Prop) {Q : Value → Shared → Prop} (hl : s.heap.IsList l its) (loop : SetLoop P w A s l Post) (q : SetGoal s Post Q) :
    wpAny (model P w) A (call (.type "set") [.ref l]) Q E s := by
  obtain ⟨c, tl, hmro⟩ := F.called_set.mro
  have y1 := F.called_set.made
  have y2 := F.called_set.sub
  apply wpAny_call (codeAny_of_tree _)
  show wpAny _ _ (callAny (.type "set") _) _ _ _
  apply wpAny_pure
  refine ⟨Code.quiet_builtin _ (by decide +kernel), codeAny_builtin F.entry_type_call ?_⟩
  rw [Around.under_plain (weight_type_call_type "set" [.ref l] []) rfl]
  have y3 := F.called_set.notType
  have y4 := F.called_set.canCreate
  have y5 := F.typeCall_set_1 (.ref l)
  repeat (any_goals (first | assumption | wp_step))
  generalize hb : (!w.params.followText "set-order") = led at *
  have hled : w.params.followText "set-order" = true ∨ led = true := by
    rw [← hb]
    cases w.params.followText "set-order" <;> simp
  have z0 : ∀ b, s.heap.objs.size ≤ b → s.heap.get? b = none := fun b hb => by
    cases e : s.heap.get? b with
    | none => rfl
    | some o => exact absurd (Heap.lt_size e) (Nat.not_lt.mpr hb)
  have n1 : (s.heap.push (set0 led)).objs.size = s.heap.objs.size + 1 := Heap.size_push ..
  have g1 : (s.heap.push (set0 led)).get? s.heap.objs.size = some (set0 led) := Heap.get?_push_size _ rfl
  apply codeAny_mono (code_set_led1 (.ref l) (E := E) (Q₁ := fun obj s₁ => obj = .ref s.heap.objs.size ∧ s₁ = { s with heap := s.heap.push (set0 led) }) ⟨rfl, by rw [hb]; rfl⟩)
  intro r s₁ hr
  rcases r with e | fl
  · exact hr
  cases fl with
  | next => exact hr.elim
  | brk => exact hr.elim
  | cont => exact hr.elim
  | ret obj =>
  obtain ⟨rfl, rfl⟩ := hr
  have ty : Shared.TypeIs { s with heap := s.heap.push (set0 led) } (.ref s.heap.objs.size) "set" := ⟨_, g1, rfl⟩
  have x1 := F.called_set.init.lookup
  have x2 := F.called_set.init.bind (.ref s.heap.objs.size)
  repeat (any_goals (first | assumption | wp_step))
  apply codeAny_mono (codeAny_call_builtin (R := wants (fun r s₂ => r = .none ∧ ∃ h' tk, s₂ = { s with heap := h', toks := tk } ∧ Post h' ∧
    (∀ b o, s.heap.get? b = some o → h'.get? b = some o)) E) F.called_set.init.plain F.entry_set_init (check_set_init_1 ty _))
  · intro r₂ s₂ hr₂
    rcases r₂ with e | fl₂
    · exact hr₂
    cases fl₂ with
    | next => exact hr₂.elim
    | brk => exact hr₂.elim
    | cont => exact hr₂.elim
    | ret r =>
      obtain ⟨rfl, h', tk, rfl, g, k⟩ := hr₂
      repeat (any_goals (first | assumption | wp_step))
      exact q.out _ _ g k
  obtain ⟨⟨oc, od, odt, osl⟩, hol, hcl, nl, hdl⟩ := hl
  dsimp only at hcl hdl
  subst hcl hdl
  have ls : l < s.heap.objs.size := Heap.lt_size hol
  have g2 := Heap.get?_push_of_some (set0 led) hol
  have w1 := F.sub_list_set
  have w2 := F.sub_list_frozenset
  have w3 : (Value.type "list" == Value.type "dict") = false := by decide
  have hl1 : (s.heap.push (set0 led)).IsList l its := ⟨_, g2, rfl, nl, rfl⟩
  unfold Builtin.«set.__init__» noKeywords Builtin.Frozenset.updateFrom
  generalize hPI : pyIter = PI
  clear q y1 y2 y3 y4 y5 x1 x2 ty g1 z0 n1 hb
  wp_walk
  subst hPI
  apply wpAny_pyIter_list hl1
  apply wpAny_bind (wpAny_runValue _)
  refine loop.run led _ hled fun h' tk g k => ?_
  show wpAny _ _ _ _ _ _
  apply wpAny_pure
  show wpAny _ _ (ret Value.none) _ _ _
  exact wpAny_pure ⟨rfl, h', tk, rfl, g, k⟩
theorem no_above {h : Heap} {b : Addr} (hb : h.objs.size ≤ b) : h.get? b = none := by
  cases e : h.get? b with
  | none => rfl
  | some o => exact absurd (Heap.lt_size e) (Nat.not_lt.mpr hb)
/-- set(xs), xs a list of such tuples -/
theorem call_setK {l : Addr} {its : Array Value} (ks : List Row) {Q : Value → Shared → Prop} (hh : A.handled = none) (hl : s.heap.IsList l its) (hit : its.toList = ks.map fun p => Value.ref p.1)
    (hk : ∀ p, p ∈ ks → TupK P w s.heap p.2 p.1) (few : Few ks) (hu : A.units + 3 < cLine)
    (q : ∀ (h' : Heap) (tk : Nat) L es ep t, SetK P w h' s.heap.objs.size L es ep t → Had ks ks.length L → (∀ b o, s.heap.get? b = some o → h'.get? b = some o) → Q (.ref s.heap.objs.size) { s with heap := h', toks := tk }) :
    wpAny (model P w) A (call (.type "set") [.ref l]) Q E s := by
  have isz : its.size = ks.length := by
    have z : its.toList.length = (ks.map fun p => Value.ref p.1).length := by rw [hit]
    simpa using z
  refine call_set_gen (fun h' => ∃ L es ep t, SetK P w h' s.heap.objs.size L es ep t ∧ Had ks ks.length L) hl ⟨?_⟩ ⟨fun h' tk ⟨L, es, ep, t, hS, g⟩ k => q h' tk L es ep t hS g k⟩
  intro led R hled hR
  have n1 : (s.heap.push (set0 led)).objs.size = s.heap.objs.size + 1 := Heap.size_push ..
  have g1 : (s.heap.push (set0 led)).get? s.heap.objs.size = some (set0 led) := Heap.get?_push_size _ rfl
  have hl1 := hl.push (set0 led)
  have ls : l < s.heap.objs.size := by
    obtain ⟨o, ho, _⟩ := hl
    exact Heap.lt_size ho
  have h3 : A.in1.in1.in1.handled = none := by simp [hh]
  have nI : l ≠ (s.heap.push (set0 led)).objs.size := by
    rw [n1]
    exact Nat.ne_of_lt (Nat.lt_succ_of_lt ls)
  have val : ∀ (i : Nat) (v : Value), its[i]? = some v → ∃ p, ks[i]? = some p ∧ v = .ref p.1 := fun i v hv => by
    rw [← Array.getElem?_toList, hit, List.getElem?_map] at hv
    obtain ⟨p, e1, e2⟩ := Option.map_eq_some_iff.mp hv
    exact ⟨p, e1, e2.symm⟩
  refine loopK ((Walks.list h3 _ l nI its).toS) s.heap.objs.size ?n1 ks isz few val s.heap hk (no_above (Nat.le_refl _)) ?n2 hu (its.size - 0) 0 _ (by omega) (Nat.zero_le _)
    ⟨⟨_, Heap.get?_push_size _ rfl, rfl, rfl⟩, (hl1.push _)⟩ (fun b o e => Heap.get?_push_of_some _ (Heap.get?_push_of_some _ e)) ⟨[], #[], 0, _, setK_new (Heap.get?_push_of_some _ g1), Had.nil ks⟩ ?n3
  case n1 =>
    rw [n1]
    simp only [List.mem_cons, List.not_mem_nil, or_false, not_or]
    exact ⟨Nat.ne_of_lt (Nat.lt_succ_self _), Nat.ne_of_gt ls⟩
  case n2 =>
    intro b hb
    rw [List.mem_singleton.mp hb, n1]
    exact no_above (Nat.le_succ _)
  case n3 =>
    intro s' L es ep t mv hS g k
    obtain ⟨h', g2, d', tk', os'⟩ := s'
    obtain rfl : g2 = s.gens := mv.gens
    obtain rfl : d' = s.drawn := mv.drawn
    obtain rfl : os' = s.os := mv.os
    rw [isz] at g
    exact hR h' tk' ⟨L, es, ep, t, hS, g⟩ k
end

/-! ### len(set(xs)) as a rule of the layer -/
/-- how many different ones -/
def many {α : Type} [DecidableEq α] (l : List α) : Nat := l.eraseDups.length
section
variable {X : Cx}
theorem TupK.of {pins : List (Addr × Obj)} {σ : L2.St} {H : Hp} {s : Shared} (I : Inv X pins σ H s) {a : Addr} {k : List Key} (h : SqT X.K H a (k.map kV)) : TupK X.prog X.w s.heap k a := by
  obtain ⟨its, rv, ⟨o, h1, h2, n, h3⟩, z⟩ := I.tuple h
  refine ⟨o, its.toArray, n, h1, h2, h3, ?_⟩
  rw [List.toList_toArray]
  clear h1 h2 h3 h z
  induction k generalizing its with
  | nil =>
    cases rv
    exact .nil
  | cons x k ih =>
    cases rv with
    | cons r t =>
      refine .cons ?_ (ih _ t)
      cases x with
      | inl i =>
        obtain ⟨t, rfl⟩ := r
        exact keyIs_int i t
      | inr z =>
        obtain ⟨t, rfl⟩ := r
        exact keyIs_str z t
/-- F: that there are few -/
def tLenSetG (F : List Row → Prop) (K : PySem.W.Frag) (ta : TE) : TE := fun σ H Q => ta σ H fun x H1 => ∃ (l : Addr) (ks : List Row), x = V.ref l ∧ SqL K H1 l (ks.map fun p => V.ref p.1) ∧ (∀ p, p ∈ ks → SqT K H1 p.1 (p.2.map kV)) ∧ F ks ∧
  ∀ n : Nat, (∀ D : List (List Key), D.Nodup → (∀ k, k ∈ D ↔ k ∈ keysK ks) → D.length = n) → Q (.int n) H1
def tLenSetK (K : PySem.W.Frag) (ta : TE) : TE := tLenSetG (fun ks => ks.length < 64) K ta
theorem nodup_same {α : Type} : ∀ {l m : List α}, l.Nodup → m.Nodup → (∀ x, x ∈ l ↔ x ∈ m) → l.length = m.length := fun h1 h2 h =>
  ((List.perm_ext_iff_of_nodup h1 h2).mpr h).length_eq
theorem pe_lenSetG {F : List Row → Prop} (hF : ∀ ks, F ks → Few ks) {a : Expr} {ta : TE} {p p2 q pos : Pos} (hc : X.calm = true) (hg : Gl X "len") (hm : X.mg "len" = none) (hg2 : Gl X "set") (hm2 : X.mg "set" = none) (ha : PE X a ta) (hu : X.A.units + 64 < cLine)
    (na : starEach [a] X.env = (false, eval a X.env) :: starEach [] X.env := by rfl) : PE X (.Call (.Name "len" p) [.Call (.Name "set" p2) [a] [] q] [] pos) (tLenSetG F X.K ta) := by
  refine ⟨fun pins s σ H Q I h => ?_⟩
  apply Call_ (ld_blt I hg hm PySem.boot_len _)
  apply PyProof.Rows.callWith_builtin1 (PyProof.Rows.args_cons _ rfl) rfl rfl
  apply Call_ (ld_blt I hg2 hm2 PyProof.Rows.boot_set _)
  apply PyProof.Rows.callWith_type1 (PyProof.Rows.args_cons (thn (ha.run pins s σ H _ I h) _) na) na rfl
  rintro v s1 ⟨x, H1, I1, r1, l, ks, rfl, hl, hk, few, q1⟩
  apply PyProof.Rows.args_nil
  cases r1
  obtain ⟨its, rv, pl, hz⟩ := I1.list hl
  have e1 : its = ks.map fun p => Value.ref p.1 := by
    clear hl pl hz hk few q1 I1
    induction ks generalizing its with
    | nil =>
      cases rv
      rfl
    | cons p ks ih =>
      cases rv with
      | cons r t =>
        cases r
        rw [List.map_cons, ih _ t]
  apply call_setK ks (I1.ok.hd hc) pl.isList (by rw [List.toList_toArray, e1]) (fun p hp => TupK.of I1 (hk p hp)) (hF ks few) (by omega)
  intro h' tk L es ep t R g k
  apply PyProof.Rows.args_nil
  have I2 : Inv X pins σ H1 { s1 with heap := h', toks := tk } := I1.kept fun b o e => k b o e
  have ln := rowsK_len R.rws
  have hL : L.length = (keysK L).length := by simp [keysK]
  obtain ⟨o, ho, hex, hd⟩ := R.obj
  have fin := q1 L.length fun D h1 h2 => by
    rw [hL]
    refine nodup_same h1 R.uni fun x => ?_
    rw [h2, keysK, List.mem_map]
    constructor
    · rintro ⟨p, hp, rfl⟩
      exact g.all p (by rw [List.take_length]; exact hp)
    · intro hx
      obtain ⟨p, hp, rfl⟩ := List.mem_map.mp hx
      exact ⟨p, by have := g.sub p hp; rwa [List.take_length] at this, rfl⟩
  have lo := R.low
  exact call_len_set ho hex hd (SetK.fit (s := { s1 with heap := h', toks := tk }) R) (by rw [ln]; omega) ⟨.int L.length, H1, I2.tok _, ⟨_, by rw [ln]⟩, fin⟩
theorem pe_lenSetK {a : Expr} {ta : TE} {p p2 q pos : Pos} (hc : X.calm = true) (hg : Gl X "len") (hm : X.mg "len" = none) (hg2 : Gl X "set") (hm2 : X.mg "set" = none) (ha : PE X a ta) (hu : X.A.units + 64 < cLine)
    (na : starEach [a] X.env = (false, eval a X.env) :: starEach [] X.env := by rfl) : PE X (.Call (.Name "len" p) [.Call (.Name "set" p2) [a] [] q] [] pos) (tLenSetK X.K ta) := pe_lenSetG (F := fun ks => ks.length < 64) (fun _ h => few_of h) hc hg hm hg2 hm2 ha hu na
end
end Kx
/-! len(set(xs)), xs a list of texts. -/
namespace Kx
open PySem PySem.Spec PyProof.Rows L2
/-- how many different ones stand in a list -/
def cnt {α : Type} [DecidableEq α] : List α → Nat
  | [] => 0
  | x :: l => if x ∈ l then cnt l else cnt l + 1
section
variable {P : Program} {w : World} {A : Around} {E : Value → Shared → Prop} {s : Shared}
def inS (xs : List Str) (k : Str) : Bool := decide (k ∈ xs)
theorem cnt_rev_append {α : Type} [DecidableEq α] : ∀ (l : List α) (x : α), cnt (l ++ [x]) = if x ∈ l then cnt l else cnt l + 1
  | [], x => by simp [cnt]
  | y :: l, x => by
    have ih := cnt_rev_append l x
    by_cases h3 : y = x
    · subst h3
      by_cases h1 : y ∈ l <;> simp_all [cnt]
    · have h4 : ¬ x = y := fun e => h3 e.symm
      by_cases h1 : x ∈ l <;> by_cases h2 : y ∈ l <;> simp_all [cnt]
theorem cnt_le {α : Type} [DecidableEq α] : ∀ l : List α, cnt l ≤ l.length
  | [] => Nat.le_refl _
  | x :: l => by
    have := cnt_le l
    unfold cnt
    split <;> simp <;> omega
theorem loopS {I : Addr} {fp wr : List Addr} {G : Array GenState → Array GenState → Prop} {n : Nat} {Pv : Nat → Value → Prop} {St : Nat → Shared → Prop} {R : Result → Shared → Prop}
    (W : WalksS P w A.in1 I fp wr G n Pv St) (S : Addr) (nS : S ∉ fp) (xs : List Str) (hn : n = xs.length) (few : xs.length < 4000) (val : ∀ i v, Pv i v → ∃ x t, xs[i]? = some x ∧ v = .str x t)
    (g0 : Heap) (n0 : g0.get? S = none) (w0 : ∀ b, b ∈ wr → g0.get? b = none) :
    ∀ (m i : Nat) (s : Shared), n - i = m → i ≤ n → St i s → (∀ b o, g0.get? b = some o → s.heap.get? b = some o) → s.heap.SetOf (strKind P w) S (inS (xs.take i)) (cnt (xs.take i)) →
      (∀ s', Moved (S :: wr) G s s' → s'.heap.SetOf (strKind P w) S (inS xs) (cnt xs) → (∀ b o, g0.get? b = some o → s'.heap.get? b = some o) → R (.ok (.ret .none)) s') →
      codeAny (model P w) A (.builtin "set.update.loop" ⟨[.ref S, .ref I], []⟩) R s := by
  have sw : S ∉ wr := fun h => nS (W.sub _ h)
  have up : ∀ b, b ∈ wr → b ∈ S :: wr := fun b hb => List.mem_cons_of_mem _ hb
  have kp : ∀ {s s' : Shared}, Moved wr G s s' → (∀ b o, g0.get? b = some o → s.heap.get? b = some o) → ∀ b o, g0.get? b = some o → s'.heap.get? b = some o := fun hm h b o e =>
    hm.heap b o (fun hb => by rw [w0 b hb] at e; cases e) (h b o e)
  have stay : ∀ {h h' : Heap} {f : Str → Bool} {c : Nat}, h.SetOf (strKind P w) S f c → (∀ o, h.get? S = some o → h'.get? S = some o) → h'.SetOf (strKind P w) S f c := fun ⟨o, es, ep, tb, ho, r⟩ k => ⟨o, es, ep, tb, k o ho, r⟩
  intro m
  induction m with
  | zero =>
    intro i s hm hi hst hkp hS hR
    obtain rfl : i = n := by omega
    apply codeAny_builtin F.entry_set_update_loop
    rw [Around.under_plainId F.plain_set_update_loop _]
    show wpAny _ A.in1 (pyNext (.ref I) >>= _) _ _ s
    apply wpAny_bind (W.done s _ _ hst _)
    intro s' mv
    show wpAny _ A.in1 (ret Value.none) _ _ s'
    rw [hn, List.take_length] at hS
    exact wpAny_pure (hR s' (mv.mono up) (stay hS fun o e => mv.heap S o sw e) (kp mv hkp))
  | succ m ih =>
    intro i s hm hi hst hkp hS hR
    have lt : i < n := by omega
    apply codeAny_builtin F.entry_set_update_loop
    rw [Around.under_plainId F.plain_set_update_loop _]
    show wpAny _ A.in1 (pyNext (.ref I) >>= _) _ _ s
    apply wpAny_bind (W.item i s _ _ lt hst _)
    intro v s' hP hst' mv
    obtain ⟨x, t, hx, rfl⟩ := val i v hP
    have k2 := kp mv hkp
    have hS' := stay hS fun o e => mv.heap S o sw e
    have room : cnt (xs.take i) ≤ i := Nat.le_trans (cnt_le _) (by rw [List.length_take]; omega)
    show wpAny _ A.in1 (holding [Value.str x t] (setAdd S (.str x t)) >>= _) _ _ s'
    apply wpAny_bind (wpAny_holding _)
    unfold setAdd
    apply wpAny_holding
    apply wpAny_bind ((PySem.strKind P w).pyHash (k := x) (strKind_is _ _ _ _) _)
    apply wpAny_setAddHashed_of (knd := PySem.strKind P w) (s := { s' with toks := s'.toks + 1 }) (strKind_is _ _ _ _) rfl hS' (by unfold scanBound; omega)
    intro h' sb hS2
    have k3 : ∀ b o, g0.get? b = some o → h'.get? b = some o := fun b o e => (sb.2 b (fun z => by rw [z, n0] at e; cases e)).trans (k2 b o e)
    have fr := W.frame (i + 1) s' h' (s'.toks + 1) hst' (Nat.le_add_right _ _) fun b hb o e => by
      rw [sb.2 b (fun h : b = S => nS (by rw [← h]; exact hb))]; exact e
    have hS3 : h'.SetOf (PySem.strKind P w) S (inS (xs.take (i + 1))) (cnt (xs.take (i + 1))) := by
      refine SetOf_congr hS2 (fun k => ?_) ?_
      · rw [take_one hx]
        by_cases e : k = x <;> by_cases e2 : k ∈ xs.take i <;> simp [inS, e, e2]
      · rw [take_one hx, cnt_rev_append]
        by_cases e : x ∈ xs.take i <;> simp [inS, e]
    apply wpAny_pure
    refine ⟨plainId_quiet F.plain_set_update_loop _, ih (i + 1) _ (by omega) lt fr k3 hS3 fun s'' mv2 hS4 k4 => ?_⟩
    refine hR s'' (Moved.trans W.gtrans ((mv.mono up).then_heap (Nat.le_add_right _ _) fun b o hb e => ?_) mv2) hS4 k4
    rw [sb.2 b fun h => hb (by rw [h]; exact List.mem_cons_self)]
    exact e
/-- set(xs), xs a list of texts -/
theorem call_setS {l : Addr} {its : Array Value} (xs : List Str) {Q : Value → Shared → Prop} (hh : A.handled = none) (hl : s.heap.IsList l its) (hi : PyProof.Rows.StrsAre its.toList xs) (few : xs.length < 4000)
    (q : ∀ (h' : Heap) (tk : Nat), h'.SetOf (strKind P w) s.heap.objs.size (inS xs) (cnt xs) → (∀ b o, s.heap.get? b = some o → h'.get? b = some o) → Q (.ref s.heap.objs.size) { s with heap := h', toks := tk }) :
    wpAny (model P w) A (call (.type "set") [.ref l]) Q E s := by
  have isz : its.size = xs.length := by rw [← StrsAre.len_eq hi, Array.length_toList]
  refine call_set_gen (fun h' => h'.SetOf (strKind P w) s.heap.objs.size (inS xs) (cnt xs)) hl ⟨?_⟩ ⟨fun h' tk hS k => q h' tk hS k⟩
  intro led R hled hR
  have n1 : (s.heap.push (set0 led)).objs.size = s.heap.objs.size + 1 := Heap.size_push ..
  have g1 : (s.heap.push (set0 led)).get? s.heap.objs.size = some (set0 led) := Heap.get?_push_size _ rfl
  have hl1 := hl.push (set0 led)
  have ls : l < s.heap.objs.size := by
    obtain ⟨o, ho, _⟩ := hl
    exact Heap.lt_size ho
  have h3 : A.in1.in1.in1.handled = none := by simp [hh]
  have nI : l ≠ (s.heap.push (set0 led)).objs.size := by
    rw [n1]
    exact Nat.ne_of_lt (Nat.lt_succ_of_lt ls)
  have val : ∀ (i : Nat) (v : Value), its[i]? = some v → ∃ x t, xs[i]? = some x ∧ v = .str x t := fun i v hv => by
    rw [← Array.getElem?_toList] at hv
    have lt : i < xs.length := by
      rw [← isz, ← Array.length_toList]
      exact (List.getElem?_eq_some_iff.mp hv).1
    obtain ⟨t, e⟩ := SS.strs_at hi i v hv
    exact ⟨xs[i], t, List.getElem?_eq_getElem lt, by rw [e]; simp [List.getD, List.getElem?_eq_getElem lt]⟩
  refine loopS ((Walks.list h3 _ l nI its).toS) s.heap.objs.size ?n1 xs isz few val s.heap (no_above (Nat.le_refl _)) ?n2 (its.size - 0) 0 _ (by omega) (Nat.zero_le _)
    ⟨⟨_, Heap.get?_push_size _ rfl, rfl, rfl⟩, (hl1.push _)⟩ (fun b o e => Heap.get?_push_of_some _ (Heap.get?_push_of_some _ e)) ?n4 ?n3
  case n1 =>
    rw [n1]
    simp only [List.mem_cons, List.not_mem_nil, or_false, not_or]
    exact ⟨Nat.ne_of_lt (Nat.lt_succ_self _), Nat.ne_of_gt ls⟩
  case n2 =>
    intro b hb
    rw [List.mem_singleton.mp hb, n1]
    exact no_above (Nat.le_succ _)
  case n3 =>
    intro s' mv hS k
    obtain ⟨h', g2, d', tk', os'⟩ := s'
    obtain rfl : g2 = s.gens := mv.gens
    obtain rfl : d' = s.drawn := mv.drawn
    obtain rfl : os' = s.os := mv.os
    exact hR h' tk' hS k
  case n4 =>
    refine ⟨set0 led, #[], 0, .fresh 0 0 led, Heap.get?_push_of_some _ g1, ⟨rfl, rfl, rfl⟩, rfl, ?_⟩
    exact ⟨fun e he => (nomatch he), fun k => ⟨fun h => (by simp [inS] at h), fun ⟨e, he, _⟩ => (nomatch he)⟩, (by decide : 0 < scanBound), rfl, by simp [cnt]⟩
end
section
variable {X : Cx}
theorem sAre_of : ∀ {xs : List Str} {us : List Value}, Vals (xs.map V.str) us → StrsAre us xs
  | [], _, .nil => .nil
  | x :: xs, _, .cons r t => by
    obtain ⟨tk, rfl⟩ := r
    exact .cons x tk (sAre_of t)
def tLenSetT (K : PySem.W.Frag) (ta : TE) : TE := fun σ H Q => ta σ H fun x H1 => ∃ (l : Addr) (xs : List Str), x = V.ref l ∧ SqL K H1 l (xs.map V.str) ∧ xs.length < 4000 ∧ Q (.int (cnt xs : Nat)) H1
theorem pe_lenSetT {a : Expr} {ta : TE} {p p2 q pos : Pos} (hc : X.calm = true) (hg : Gl X "len") (hm : X.mg "len" = none) (hg2 : Gl X "set") (hm2 : X.mg "set" = none) (ha : PE X a ta)
    (na : starEach [a] X.env = (false, eval a X.env) :: starEach [] X.env := by rfl) : PE X (.Call (.Name "len" p) [.Call (.Name "set" p2) [a] [] q] [] pos) (tLenSetT X.K ta) := by
  refine ⟨fun pins s σ H Q I h => ?_⟩
  apply Call_ (ld_blt I hg hm PySem.boot_len _)
  apply PyProof.Rows.callWith_builtin1 (PyProof.Rows.args_cons _ rfl) rfl rfl
  apply Call_ (ld_blt I hg2 hm2 PyProof.Rows.boot_set _)
  apply PyProof.Rows.callWith_type1 (PyProof.Rows.args_cons (thn (ha.run pins s σ H _ I h) _) na) na rfl
  rintro v s1 ⟨x, H1, I1, r1, l, xs, rfl, hl, few, q1⟩
  apply PyProof.Rows.args_nil
  cases r1
  obtain ⟨its, rv, pl, hz⟩ := I1.list hl
  apply call_setS xs (I1.ok.hd hc) pl.isList (by rw [List.toList_toArray]; exact sAre_of rv) few
  intro h' tk ⟨o, es, ep, t, ho, hex, hd, _, _, _, hf, hn⟩ k
  apply PyProof.Rows.args_nil
  have I2 : Inv X pins σ H1 { s1 with heap := h', toks := tk } := I1.kept fun b o e => k b o e
  have le := cnt_le xs
  exact call_len_set ho hex hd hf (by rw [hn]; omega) ⟨.int (cnt xs : Nat), H1, I2.tok _, ⟨_, by rw [hn]⟩, q1⟩
end
end Kx
/-! Further rules of the layer. -/
namespace Kx
open PySem PySem.Spec PyProof.Rows L2
section
variable {X : Cx}
/-- a power of a great number -/
theorem op_powX : OpR X (binaryOp .Pow) (rI (fun i j => 0 ≤ j ∧ (Builtin.Int.intBits i : Int) * j ≤ 2 ^ 27) fun i j => .int (i ^ j.toNat)) :=
  opI fun _ _ _ _ _ _ _ hc q => pow_int hc.1 hc.2 q
/-- one item more than a list's -/
theorem meets_extend_tup (l : Addr) (items : Array Value) (n : Nat) (b : Addr) (items2 : Array Value) (n2 : Nat) (od : Option Addr) (osl : Array (Option Value)) (hs0 : ¬(!items.isEmpty && Builtin.List.listTooLong (items.size + items2.size)) = true) (hs1 : items.size ≤ sizeLine) (hs2 : items.size + items2.size ≤ sizeLine + 1) :
    Meets (Builtin.«list.extend» ⟨[.ref l, .ref b], []⟩) (fun _ R s => s.heap.get? l = some { cls := .type "list", dict := none, data := .seq items n, slots := #[] } ∧ s.heap.get? b = some { cls := .type "tuple", dict := od, data := .seq items2 n2, slots := osl } ∧
      R (.ok (.ret Value.none)) { s with heap := s.heap.update l (Obj.mapSeq fun x => x ++ items2), toks := s.toks }) :=
  .of_wp fun prog w A R s h => by
    obtain ⟨hp, g, d, tk, os⟩ := s
    obtain ⟨hl, hb, h⟩ := h
    have f1 := AutoSeq1.idx_int
    have f2 := AutoSeq1.sub_tuple_tuple
    have f3 := AutoSeq1.sub_list_list
    have f4 := AutoSeq1.sub_tuple_list
    have f5 := AutoSeq1.sub_list_tuple
    have hz' : (items ++ items2).size ≤ sizeLine + 1 := by
      rw [Array.size_append]
      exact hs2
    wp_walk using (wpAny_updateSeq hl rfl (hz := hs1) (_hz' := hz')), AutoSeq1.wpAny_loadPart' hl, AutoSeq1.wpAny_loadPart' hb
    exact ⟨_, rfl, h⟩
/-- xs.extend(t), t a tuple -/
def rExtT (K : PySem.W.Frag) : V → List V → Hp → VK → Prop := fun x vs H Q => ∃ l b xs zs, x = .ref l ∧ vs = [.ref b] ∧ H l = some (.lst xs) ∧ SqT K H b zs ∧ xs.length + zs.length ≤ sizeLine ∧ Q .non (upd H l (.lst (xs ++ zs)))
theorem mt_extT : MtM X "list.extend" (rExtT X.K) := by
  intro pins s σ H x vs v us Q I rx rv h
  obtain ⟨l, b, xs, zs, rfl, rfl, hH, hB, hz, q⟩ := h
  cases rx
  obtain ⟨u, rfl, ru⟩ := rv.one
  cases ru
  obtain ⟨z, its, n, r, hl, e⟩ := I.lstM hH
  obtain ⟨its2, r2, ⟨⟨oc, od, odt, osl⟩, e2, hc, n2, hd⟩, z2⟩ := I.tuple hB
  dsimp only at hc hd
  subst hc hd
  have sz : its.toArray.size + its2.toArray.size ≤ sizeLine := by
    rw [List.size_toArray, List.size_toArray, ← r.length, ← r2.length]
    exact hz
  refine call_meets F.slot_list_extend ⟨_, e, rfl⟩ F.entry_list_extend (F.args_list_extend_2 _ _)
    (meets_extend_tup l its.toArray n b its2.toArray n2 od osl ?_ ?_ ?_) ⟨e, e2, ?_⟩
  · rw [notLongL sz, Bool.and_false]
    exact Bool.false_ne_true
  · omega
  · omega
  · refine ⟨.non, _, I.lset (its' := its ++ its2) hH e (by simp) (r.append r2) ?_, rfl, q⟩
    rw [List.length_append]
    exact hz
end
end Kx
/-! Defs that are called where no repr runs: the layer's promise of a def, with that told. -/
namespace Kx
open PySem PySem.Spec PyProof.Rows L2
/-- nothing around A shows itself -/
def Calm (A : Around) : Prop := A.guards = some []
/-- as FnOk, where nothing around shows itself -/
structure FnG (P : Program) (w : World) (K : PySem.W.Frag) (mg : Str → Option Value) (base : Heap) (k : Nat) (f : Addr) (fd : FuncData) (ps : List Str) (sp : Sp) : Prop where
  len : ∀ vs H Q E, sp vs H Q E → vs.length = ps.length
  run : ∀ (A : Around) (outer : List Env) (s : Shared) (H : Hp) (args : Args) (us : List Value) (vs : List V) (Q : VK) (E : XK), Calm A → Room k A → Env0 P w K mg base A outer s H → BindsTo s fd args (ps.zip us) → Vals vs us → sp vs H Q E →
    codeAny (model P w) A (.call (.ref f) args) (CR CX0 outer P w H s Q E) s
theorem calm_deeper {A : Around} {env : Env} (h : Calm A) : Calm (A.deeper env) := by
  unfold Calm at *
  show (A.deeper env).guards = some []
  simp [Around.deeper, h]
section
variable {P : Program} {w : World} {K : PySem.W.Frag} {mg : Str → Option Value} {base : Heap}
theorem fnG_mono {j k : Nat} {f : Addr} {fd : FuncData} {ps : List Str} {sp : Sp} (F : FnG P w K mg base j f fd ps sp) (h : j ≤ k) : FnG P w K mg base k f fd ps sp :=
  ⟨F.len, fun A outer s H args us vs Q E c hr => F.run A outer s H args us vs Q E c (hr.mono h)⟩
/-- THE RULE: a def of the text by its body -/
theorem okG {x qual : Str} {st : Stmt} {f : Addr} {fd : FuncData} {N ps : List Str} {k : Nat} {sp : Sp} (F : Fun K x qual st f fd) (S : FnScope N ps (defScope st)) (len : ∀ vs H Q E, sp vs H Q E → vs.length = ps.length)
    (hbody : ∀ (cdv : Value) (A : Around) (outer : List Env) (s : Shared) (H : Hp) (vs : List V) (Q : VK) (E : XK), Calm (A.deeper (envOfC qual (defScope st) s.heap.objs.size f cdv)) → Room k (A.deeper (envOfC qual (defScope st) s.heap.objs.size f cdv)) → sp vs H Q E →
      ∃ t, PSs (cxOf CX0 P w K mg base N qual (defScope st) f cdv A outer s H E).nox (defBody st) t ∧ t { nx := fun _ H' => Q .non H', rt := Q } (start N vs) H) : FnG P w K mg base (k + 1) f fd ps sp := by
  obtain ⟨oc, od, kV, doc, pm, an, cdv, ct, osl, rfl, lk, hcd⟩ := F.ex
  constructor
  · exact len
  intro A outer s H args us vs Q E cm hr e0 hb r hsp
  have nl := len _ _ _ _ hsp
  have kin : K.In s.heap := e0.mod.kin.keeps fun b o e => (e0.bs b o e).1
  have lim : s.heap.NoLimit := e0.mod.nolimit.keeps fun b o e => (e0.bs b o e).1
  refine codeAny_call_function hr.depth (kin _ _ lk) rfl S.co S.gen rfl (PySem.W.codeRec_of kin hcd) (hb _ _ _ _ (wpAny_newFunctionEnv_cells S.kind ?_ ?_))
  · rintro ⟨n, v⟩ hy
    rcases S.par n (List.of_mem_zip hy).1 with q | q
    · exact .inl q
    · exact .inr ⟨q, PySem.W.cellsFrom_some _ _ _ (.inl q)⟩
  rintro env rfl s1 x
  refine ⟨lim.keeps x.toInCall.keep, codeAny_func ?_⟩
  obtain ⟨t, ht, hq⟩ := hbody cdv A outer s H vs Q E (calm_deeper cm) (hr.deeper _) hsp
  have J0 := inv_start (CX := CX0) (f := f) (cd := cdv) (E := E) (qual := qual) S hr.hd e0 nl r x
  refine wpAny_mono (ht.nox.run [] s1 _ H _ J0 hq) ?_ fun e s' hs => hs
  intro fl s' hs
  rcases fl with _ | _ | _ | u
  · obtain ⟨σ', H', J, q⟩ := hs
    exact ⟨.non, H', J.os, J.bare, J.base, J.hok, rfl, q⟩
  · obtain ⟨_, _, _, q⟩ := hs
    exact q.elim
  · obtain ⟨_, _, _, q⟩ := hs
    exact q.elim
  · obtain ⟨v, σ', H', J, rv, q⟩ := hs
    exact ⟨v, H', J.os, J.bare, J.base, J.hok, rv, q⟩
end
section
variable {X : Cx} {k : Nat} {f : Addr} {fd : FuncData} {ps : List Str} {sp : Sp} {x : Str} {p pos : Pos} {e : Expr} {es : List Expr} {t : TA} {ds : List Value} {dvs : List V} {E : XK}
/-- f(e, ..) for such a def -/
theorem pe_callG (F : FnG X.prog X.w X.K X.mg X.base k f fd ps sp) (cm : Calm X.A) (hr : Room k X.A) (hg : Gl X x) (hm : X.mg x = some (.ref f)) (hk : PySem.W.keepIn X.K (.ref f) = true) (hb : Binds X.K fd ps [])
    (ha : PA X (e :: es) t) (hdb : (x == ("__debug__" : Str)) = false := by decide) (he : starEach (e :: es) X.env = (false, eval e X.env) :: starEach es X.env := by rfl) (hpl : (backTo pos (starEach es X.env)).any (·.1) = false := by rfl) :
    PE X (.Call (.Name x p) (e :: es) [] pos) (tCall sp [] E0 t) := by
  refine ⟨fun pins s σ H Q I h => wpAny_Call_Name_kw (ld_glob I hg hm ?_ hdb)⟩
  refine PySem.W.callWith_K (h₀ := X.base) I.ok.mod.kin hk (thn (ha.run pos pins s σ H _ I h) ?_) he hpl
  rintro us s1 ⟨vs, H1, I1, r, q⟩
  refine ⟨I1.kIn, ?_⟩
  rw [List.append_nil] at q
  have hl : us.length = ps.length := by
    rw [← r.length]
    exact F.len _ _ _ _ q
  have hb' := hb s1 us I1.kIn (by rw [List.append_nil]; exact hl)
  rw [List.append_nil] at hb'
  refine wpAny_call (codeAny_mono (F.run X.A X.stack s1 H1 ⟨us, []⟩ us vs Q E0 cm hr I1.env0 hb' r q) ?_)
  intro r2 s' hq
  rcases r2 with z | fl
  · exact hq.elim
  rcases fl with _ | _ | _ | u
  · exact hq.elim
  · exact hq.elim
  · exact hq.elim
  · exact I1.after hq
end

section
variable {P : Program} {w : World} {K : PySem.W.Frag} {mg mb : Str → Option Value} {k : Nat} {fa a : Addr} {fd : FuncData} {x : Str} {sp : Sp} {s₁ : Shared} {vs : List Value} {ns : List Int}
/-- what the law's call starts from, over an abstract heap H in which the script alone may stand -/
theorem law_from {H : Hp} (hO : Only H) (hS : SqL K H a (ns.map V.int)) (hok : HOk P w H s₁.heap) (hA : ∀ b, H b ≠ none → b = a) (hK : H a ≠ none → K.lookup a = none)
    (KX : K.In s₁.heap) (hns : s₁.heap.Ns mainGlobals mg) (hb : s₁.heap.Ns builtinsNs mb) (hbb : ∀ x : Str, x ≠ "__name__" → mb x = bootBuiltins x) (hlim : s₁.heap.NoLimit) (hg : s₁.gens = #[])
    (ha : s₁.heap.get? a = some { cls := .type "list", data := .seq vs.toArray }) (hr : Room k callerA)
    (F : ∀ base : Heap, K.In base → base.Ns mainGlobals mg → FnG P w K mg base k fa fd [x] sp) (hbind : ∀ (s : Shared) (u : Value), BindsTo s fd ⟨[u], []⟩ [(x, u)])
    (hsp : sp [.ref a] H (fun v _ => v = .bl true) fun _ _ _ => False) :
    codeAny (model P w) callerA (.call (.ref fa) ⟨[.ref a], []⟩) (fun r s' => r = .ok (.ret (.bool true)) ∧ OldK s₁.heap s'.heap ∧ s'.os = s₁.os ∧ AllBare s'.gens) s₁ := by
  have hid : ∀ {b o}, s₁.heap.get? b = some o → H b = none → (hidT s₁.heap H).get? b = some o := fun e n => hidT_get e n
  have free : ∀ {b : Addr} {o : Obj} {es : Array DictEntry} {ep : Nat}, s₁.heap.get? b = some o → o.data = .dict es ep → H b = none := by
    intro b o es ep e d
    cases q : H b with
    | none => rfl
    | some u =>
      have z := hA b (by simp [q])
      subst z
      rw [ha] at e
      cases e
      cases d
  have ns_of : ∀ {b : Addr} {m : Str → Option Value}, s₁.heap.Ns b m → (hidT s₁.heap H).Ns b m := by
    rintro b m ⟨o, es, ep, e, d, r⟩
    exact ⟨o, es, ep, hid e (free e d), d, r⟩
  have kin : K.In (hidT s₁.heap H) := by
    intro b o e
    refine hid (KX b o e) ?_
    cases q : H b with
    | none => rfl
    | some u =>
      have z := hA b (by simp [q])
      subst z
      rw [hK (by simp [q])] at e
      cases e
  have md : Mod K mg (hidT s₁.heap H) := by
    obtain ⟨mc, h1, h2⟩ := hlim
    exact ⟨kin, ns_of hns, ⟨mb, ns_of hb, hbb⟩, mc, ns_of h1, h2⟩
  have e0 : Env0 P w K mg (hidT s₁.heap H) callerA [] s₁ H := ⟨rfl, md, fun b o e => of_hidT e, Nat.le_of_eq (hidT_size _ _), trivial, fun b hb => (nomatch (show b ∈ ([] : List Addr) from hb)), hok, .of_eq hg⟩
  refine codeAny_mono ((F _ kin (ns_of hns)).run callerA [] s₁ H ⟨[.ref a], []⟩ [Value.ref a] [V.ref a] (fun v _ => v = .bl true) (fun _ _ _ => False) rfl hr e0 (hbind s₁ (.ref a)) (.cons rfl .nil) hsp) ?_
  intro r s' h
  rcases r with e | fl
  · exact h.elim
  rcases fl with _ | _ | _ | u
  · exact h.elim
  · exact h.elim
  · exact h.elim
  obtain ⟨v, H', os, bare, un, hok', r', q⟩ := h
  obtain rfl : v = .bl true := q
  obtain rfl : u = Value.bool true := r'
  refine ⟨rfl, OldK.of_keep fun b o e => ?_, os, bare⟩
  cases q : H b with
  | none => exact un.keep b o e q (fun z => (nomatch (show b ∈ ([] : List Addr) from z))) (fun z => nomatch z)
  | some u =>
    rcases hO b with z | ⟨ob, xs, z⟩
    · rw [q] at z
      cases z
    · obtain ⟨e1, _⟩ := hok b _ z
      obtain ⟨e2, _⟩ := hok' b _ (un.frzs b ob _ z)
      rw [e] at e1
      cases e1
      exact e2
theorem law_callG (KX : K.In s₁.heap) (hns : s₁.heap.Ns mainGlobals mg) (hb : s₁.heap.Ns builtinsNs mb) (hbb : ∀ x : Str, x ≠ "__name__" → mb x = bootBuiltins x) (hlim : s₁.heap.NoLimit) (hg : s₁.gens = #[])
    (ha : s₁.heap.get? a = some { cls := .type "list", data := .seq vs.toArray }) (hi : IntsAre vs ns) (hl : ns.length ≤ sizeLine) (hr : Room k callerA)
    (F : ∀ base : Heap, K.In base → base.Ns mainGlobals mg → FnG P w K mg base k fa fd [x] sp) (hbind : ∀ (s : Shared) (u : Value), BindsTo s fd ⟨[u], []⟩ [(x, u)])
    (hsp : ∀ H : Hp, Only H → SqL K H a (ns.map V.int) → sp [.ref a] H (fun v _ => v = .bl true) fun _ _ _ => False) :
    codeAny (model P w) callerA (.call (.ref fa) ⟨[.ref a], []⟩) (fun r s' => r = .ok (.ret (.bool true)) ∧ OldK s₁.heap s'.heap ∧ s'.os = s₁.os ∧ AllBare s'.gens) s₁ := by
  have rv := vals_ints hi
  have nv := hi.length
  cases hk : K.lookup a with
  | some o =>
    have e := KX a o hk
    rw [ha] at e
    cases e
    have S : SqL K (fun _ => none) a (ns.map V.int) := .inr ⟨_, vs.toArray, _, hk, rfl, rfl, rfl, by rw [List.size_toArray, nv]; exact hl, by simpa using rv⟩
    have O : Only (fun _ => none) := fun _ => .inl rfl
    exact law_from (H := fun _ => none) O S (fun b u z => (by cases (show (none : Option HO) = some u from z))) (fun b z => absurd rfl z) (fun z => absurd rfl z) KX hns hb hbb hlim hg ha hr F hbind (hsp _ O S)
  | none =>
    let ob : Obj := { cls := .type "list", data := .seq vs.toArray }
    let H : Hp := fun b => if b = a then some (.frz ob (.lst (ns.map V.int))) else none
    have at_ : H a = some (.frz ob (.lst (ns.map V.int))) := if_pos rfl
    have off : ∀ b, b ≠ a → H b = none := fun b h => if_neg h
    have S : SqL K H a (ns.map V.int) := .inl (.inr ⟨ob, at_⟩)
    have O : Only H := fun b => by
      by_cases h : b = a
      · subst h
        exact .inr ⟨_, _, at_⟩
      · exact .inl (off b h)
    refine law_from O S (fun b u z => ?_) (fun b z => ?_) (fun _ => hk) KX hns hb hbb hlim hg ha hr F hbind (hsp _ O S)
    · by_cases h : b = a
      · subst h
        rw [at_] at z
        cases z
        exact ⟨ha, by rw [List.length_map]; exact hl, vs, _, rv, ha⟩
      · rw [off b h] at z
        cases z
    · by_cases h : b = a
      · exact h
      · exact absurd (off b h) z
end
/-- as walk_of, for such a law -/
theorem walk_ofG {l : PySem.W.OpenLaw} {n k : Nat} {q : Program} {loose : List Str} {XP : (Str → Option Value) → Heap → Prop} {YP : World → Heap → Prop} {d : DefRec} {K : Params → PySem.W.Frag} {sp : World → Sp} {x : Str}
    (hn : l.most = some n) (hn2 : n ≤ sizeLine) (hdf : d.params.defaults = []) (hr : Room k callerA) (hY : ∀ (w : World) (h : Heap), YP w h → (K w.params).In h)
    (F : ∀ (w : World) (mg : Str → Option Value) (fa : Addr) (h : Heap), (K w.params).In h → h.Ns mainGlobals mg → mg d.name = some (.ref fa) →
      ∃ fd : FuncData, (∀ (s : Shared) (u : Value), BindsTo s fd ⟨[u], []⟩ [(x, u)]) ∧ ∀ base : Heap, (K w.params).In base → base.Ns mainGlobals mg → FnG l.prog w (K w.params) mg base k fa fd [x] (sp w))
    (hsp : ∀ (w : World) (H : Hp) (a : Addr) (ns : List Int), ns.length ≤ n → Only H → SqL (K w.params) H a (ns.map V.int) → sp w [.ref a] H (fun v _ => v = .bl true) fun _ _ _ => False) :
    PySem.W.WalkO q loose XP YP l.row.toRowW d [] (fun f vs => PySem.call f vs) := by
  refine Att.attach_call hn hdf ?_
  intro w s₀ s₁ mg mb fa o pm cd doc a vs ns G Y ho hd hcd hmg hobj hints hlen hg
  have KX := hY w _ Y
  obtain ⟨fd, hb, hF⟩ := F w mg fa _ KX G.T.g hmg
  exact law_callG KX G.T.g G.T.b G.T.builtins G.T.nolimit hg hobj hints (Nat.le_trans hlen hn2) hr hF hb fun H hO hS => hsp w H a ns hlen hO hS
end Kx
/-! The text by places, and what its top leaves. Made by mkbase.py. -/
namespace K13
open PySem PySem.Spec PyProof.Rows L2 Kx
def top (i : Nat) : Stmt := PySem.Challenge.pw_shownpart_k13_texts_of_facts.main.body.getD i (.Pass ⟨0, 0, 0, 0⟩)
abbrev s_written : Stmt := top 1
abbrev N_written : List Str := ["term", "words", "waiting", "part", "below"]
theorem sc_written : FnScope N_written ["term"] (defScope s_written) := ⟨rfl, rfl, rfl, by decide +kernel, rfl, by decide +kernel, by decide +kernel⟩
abbrev s_is_name : Stmt := top 9
abbrev N_is_name : List Str := ["value"]
theorem sc_is_name : FnScope N_is_name ["value"] (defScope s_is_name) := ⟨rfl, rfl, rfl, by decide +kernel, rfl, by decide +kernel, by decide +kernel⟩
abbrev s_is_term : Stmt := top 10
abbrev N_is_term : List Str := ["value"]
theorem sc_is_term : FnScope N_is_term ["value"] (defScope s_is_term) := ⟨rfl, rfl, rfl, by decide +kernel, rfl, by decide +kernel, by decide +kernel⟩
abbrev s_read_term : Stmt := top 11
abbrev N_read_term : List Str := ["text", "result"]
theorem sc_read_term : FnScope N_read_term ["text"] (defScope s_read_term) := ⟨rfl, rfl, rfl, by decide +kernel, rfl, by decide +kernel, by decide +kernel⟩
abbrev s_joint_places : Stmt := top 12
abbrev N_joint_places : List Str := ["values", "places", "waiting", "part", "many"]
theorem sc_joint_places : FnScope N_joint_places ["values"] (defScope s_joint_places) := ⟨rfl, rfl, rfl, by decide +kernel, rfl, by decide +kernel, by decide +kernel⟩
abbrev s_has_form : Stmt := top 13
abbrev N_has_form : List Str := ["value"]
theorem sc_has_form : FnScope N_has_form ["value"] (defScope s_has_form) := ⟨rfl, rfl, rfl, by decide +kernel, rfl, by decide +kernel, by decide +kernel⟩
abbrev s_words_in : Stmt := top 14
abbrev N_words_in : List Str := ["text", "letters"]
theorem sc_words_in : FnScope N_words_in ["text"] (defScope s_words_in) := ⟨rfl, rfl, rfl, by decide +kernel, rfl, by decide +kernel, by decide +kernel⟩
abbrev s_parsed : Stmt := top 15
abbrev N_parsed : List Str := ["words", "heads", "rows", "last", "word", "ended", "row"]
theorem sc_parsed : FnScope N_parsed ["words"] (defScope s_parsed) := ⟨rfl, rfl, rfl, by decide +kernel, rfl, by decide +kernel, by decide +kernel⟩
abbrev s_is_fact : Stmt := top 17
abbrev N_is_fact : List Str := ["value", "pairs", "keys", "pair", "key", "further"]
theorem sc_is_fact : FnScope N_is_fact ["value"] (defScope s_is_fact) := ⟨rfl, rfl, rfl, by decide +kernel, rfl, by decide +kernel, by decide +kernel⟩
abbrev s_fact_text : Stmt := top 18
abbrev N_fact_text : List Str := ["fact", "end", "pair"]
theorem sc_fact_text : FnScope N_fact_text ["fact"] (defScope s_fact_text) := ⟨rfl, rfl, rfl, by decide +kernel, rfl, by decide +kernel, by decide +kernel⟩
abbrev s_read_fact : Stmt := top 19
abbrev N_read_fact : List Str := ["text", "parts", "conclusion", "conditions", "result", "part", "word"]
theorem sc_read_fact : FnScope N_read_fact ["text"] (defScope s_read_fact) := ⟨rfl, rfl, rfl, by decide +kernel, rfl, by decide +kernel, by decide +kernel⟩
abbrev s_check_fact : Stmt := top 20
abbrev N_check_fact : List Str := ["value"]
theorem sc_check_fact : FnScope N_check_fact ["value"] (defScope s_check_fact) := ⟨rfl, rfl, rfl, by decide +kernel, rfl, by decide +kernel, by decide +kernel⟩
abbrev s_is_couple : Stmt := top 21
abbrev N_is_couple : List Str := ["value"]
theorem sc_is_couple : FnScope N_is_couple ["value"] (defScope s_is_couple) := ⟨rfl, rfl, rfl, by decide +kernel, rfl, by decide +kernel, by decide +kernel⟩
abbrev s_are_couples : Stmt := top 22
abbrev N_are_couples : List Str := ["values", "value"]
theorem sc_are_couples : FnScope N_are_couples ["values"] (defScope s_are_couples) := ⟨rfl, rfl, rfl, by decide +kernel, rfl, by decide +kernel, by decide +kernel⟩
abbrev s_is_ordered : Stmt := top 23
abbrev N_is_ordered : List Str := ["couple", "one", "other"]
theorem sc_is_ordered : FnScope N_is_ordered ["couple"] (defScope s_is_ordered) := ⟨rfl, rfl, rfl, by decide +kernel, rfl, by decide +kernel, by decide +kernel⟩
abbrev s_key_of : Stmt := top 24
abbrev N_key_of : List Str := ["couple"]
theorem sc_key_of : FnScope N_key_of ["couple"] (defScope s_key_of) := ⟨rfl, rfl, rfl, by decide +kernel, rfl, by decide +kernel, by decide +kernel⟩
abbrev s_sides_of : Stmt := top 25
abbrev N_sides_of : List Str := ["couples", "couple", "term"]
theorem sc_sides_of : FnScope N_sides_of ["couples"] (defScope s_sides_of) := ⟨rfl, rfl, rfl, by decide +kernel, rfl, by decide +kernel, by decide +kernel⟩
abbrev s_pairs_in : Stmt := top 26
abbrev N_pairs_in : List Str := ["fact"]
theorem sc_pairs_in : FnScope N_pairs_in ["fact"] (defScope s_pairs_in) := ⟨rfl, rfl, rfl, by decide +kernel, rfl, by decide +kernel, by decide +kernel⟩
abbrev s_read_couple : Stmt := top 27
abbrev N_read_couple : List Str := ["text", "sides"]
theorem sc_read_couple : FnScope N_read_couple ["text"] (defScope s_read_couple) := ⟨rfl, rfl, rfl, by decide +kernel, rfl, by decide +kernel, by decide +kernel⟩
abbrev s__law_dice : Stmt := top 29
abbrev N__law_dice : List Str := ["script", "spot", "cell", "great", "mixed"]
theorem sc__law_dice : FnScope N__law_dice ["script", "spot"] (defScope s__law_dice) := ⟨rfl, rfl, rfl, by decide +kernel, rfl, by decide +kernel, by decide +kernel⟩
abbrev s__law_roll : Stmt := top 30
abbrev N__law_roll : List Str := ["dice", "top", "found", "one", "two"]
theorem sc__law_roll : FnScope N__law_roll ["dice", "top"] (defScope s__law_roll) := ⟨rfl, rfl, rfl, by decide +kernel, rfl, by decide +kernel, by decide +kernel⟩
abbrev s__law_pick : Stmt := top 31
abbrev N__law_pick : List Str := ["dice", "items"]
theorem sc__law_pick : FnScope N__law_pick ["dice", "items"] (defScope s__law_pick) := ⟨rfl, rfl, rfl, by decide +kernel, rfl, by decide +kernel, by decide +kernel⟩
abbrev s__law_mixed : Stmt := top 32
abbrev N__law_mixed : List Str := ["dice", "items", "left", "found"]
theorem sc__law_mixed : FnScope N__law_mixed ["dice", "items"] (defScope s__law_mixed) := ⟨rfl, rfl, rfl, by decide +kernel, rfl, by decide +kernel, by decide +kernel⟩
abbrev s__law_text : Stmt := top 33
abbrev N__law_text : List Str := ["term", "part"]
theorem sc__law_text : FnScope N__law_text ["term"] (defScope s__law_text) := ⟨rfl, rfl, rfl, by decide +kernel, rfl, by decide +kernel, by decide +kernel⟩
abbrev s__law_pair : Stmt := top 34
abbrev N__law_pair : List Str := ["one", "other"]
theorem sc__law_pair : FnScope N__law_pair ["one", "other"] (defScope s__law_pair) := ⟨rfl, rfl, rfl, by decide +kernel, rfl, by decide +kernel, by decide +kernel⟩
abbrev s__law_fact_text : Stmt := top 35
abbrev N__law_fact_text : List Str := ["fact", "told", "rows", "pair"]
theorem sc__law_fact_text : FnScope N__law_fact_text ["fact"] (defScope s__law_fact_text) := ⟨rfl, rfl, rfl, by decide +kernel, rfl, by decide +kernel, by decide +kernel⟩
abbrev s__law_names : Stmt := top 36
abbrev N__law_names : List Str := ["dice", "few", "pools", "cells", "name", "found"]
theorem sc__law_names : FnScope N__law_names ["dice", "few"] (defScope s__law_names) := ⟨rfl, rfl, rfl, by decide +kernel, rfl, by decide +kernel, by decide +kernel⟩
abbrev s__law_term : Stmt := top 37
abbrev N__law_term : List Str := ["dice", "names", "deep", "some", "name", "places", "row", "turn"]
theorem sc__law_term : FnScope N__law_term ["dice", "names", "deep"] (defScope s__law_term) := ⟨rfl, rfl, rfl, by decide +kernel, rfl, by decide +kernel, by decide +kernel⟩
abbrev s__law_drawn_pair : Stmt := top 38
abbrev N__law_drawn_pair : List Str := ["dice", "names", "deep", "turn", "one", "other", "some", "name", "places"]
theorem sc__law_drawn_pair : FnScope N__law_drawn_pair ["dice", "names", "deep"] (defScope s__law_drawn_pair) := ⟨rfl, rfl, rfl, by decide +kernel, rfl, by decide +kernel, by decide +kernel⟩
abbrev s__law_drawn_fact : Stmt := top 39
abbrev N__law_drawn_fact : List Str := ["dice", "names", "deep", "most", "found", "turn", "pair", "conditions", "text"]
theorem sc__law_drawn_fact : FnScope N__law_drawn_fact ["dice", "names", "deep", "most"] (defScope s__law_drawn_fact) := ⟨rfl, rfl, rfl, by decide +kernel, rfl, by decide +kernel, by decide +kernel⟩
abbrev s__law_read : Stmt := top 40
abbrev N__law_read : List Str := ["text"]
theorem sc__law_read : FnScope N__law_read ["text"] (defScope s__law_read) := ⟨rfl, rfl, rfl, by decide +kernel, rfl, by decide +kernel, by decide +kernel⟩
abbrev s__law_term_read : Stmt := top 41
abbrev N__law_term_read : List Str := ["text", "word", "sign", "inner", "depth", "pieces", "terms", "piece"]
theorem sc__law_term_read : FnScope N__law_term_read ["text"] (defScope s__law_term_read) := ⟨rfl, rfl, rfl, by decide +kernel, rfl, by decide +kernel, by decide +kernel⟩
abbrev s__law_pair_read : Stmt := top 42
abbrev N__law_pair_read : List Str := ["text", "sides", "one", "other"]
theorem sc__law_pair_read : FnScope N__law_pair_read ["text"] (defScope s__law_pair_read) := ⟨rfl, rfl, rfl, by decide +kernel, rfl, by decide +kernel, by decide +kernel⟩
abbrev s__law_count : Stmt := top 43
abbrev N__law_count : List Str := ["term", "counts", "part"]
theorem sc__law_count : FnScope N__law_count ["term", "counts"] (defScope s__law_count) := ⟨rfl, rfl, rfl, by decide +kernel, rfl, by decide +kernel, by decide +kernel⟩
abbrev s__law_due : Stmt := top 44
abbrev N__law_due : List Str := ["text", "halves", "pairs", "told", "one", "other", "counts", "piece"]
theorem sc__law_due : FnScope N__law_due ["text"] (defScope s__law_due) := ⟨rfl, rfl, rfl, by decide +kernel, rfl, by decide +kernel, by decide +kernel⟩
abbrev s__law_spoilt : Stmt := top 45
abbrev N__law_spoilt : List Str := ["dice", "text", "at", "sign", "halves", "rows", "some"]
theorem sc__law_spoilt : FnScope N__law_spoilt ["dice", "text"] (defScope s__law_spoilt) := ⟨rfl, rfl, rfl, by decide +kernel, rfl, by decide +kernel, by decide +kernel⟩
abbrev s_law : Stmt := top 46
abbrev N_law : List Str := ["script", "at", "dice", "turn", "fact", "text", "again", "other", "bad", "told", "due", "one"]
theorem sc_law : FnScope N_law ["script"] (defScope s_law) := ⟨rfl, rfl, rfl, by decide +kernel, rfl, by decide +kernel, by decide +kernel⟩
/-- what the top leaves -/
structure Tx (K : PySem.W.Frag) (mg : Str → Option Value) where
  b_abs : mg "abs" = none
  b_all : mg "all" = none
  b_int : mg "int" = none
  b_isinstance : mg "isinstance" = none
  b_len : mg "len" = none
  b_list : mg "list" = none
  b_max : mg "max" = none
  b_min : mg "min" = none
  b_range : mg "range" = none
  b_repr : mg "repr" = none
  b_sorted : mg "sorted" = none
  b_str : mg "str" = none
  b_tuple : mg "tuple" = none
  b_zip : mg "zip" = none
  CParseError : Addr
  gParseError : mg "ParseError" = some (.ref CParseError)
  xParseError : PySem.W.excIn K CParseError [.type "ValueError", .type "Exception", .type "BaseException", .type "object"] "ValueError.__new__" = true
  kParseError : PySem.W.keepIn K (.ref CParseError) = true
  bParseError : PySem.W.subIn K (.ref CParseError) (.type "BaseException") = some true
  tParseError : PySem.W.typeIn K (.ref CParseError) = some (.type "type")
  eParseError : PySem.W.exmOne K (.ref CParseError) (.ref CParseError) = some true
  CInvalidFact : Addr
  gInvalidFact : mg "InvalidFact" = some (.ref CInvalidFact)
  xInvalidFact : PySem.W.excIn K CInvalidFact [.type "ValueError", .type "Exception", .type "BaseException", .type "object"] "ValueError.__new__" = true
  kInvalidFact : PySem.W.keepIn K (.ref CInvalidFact) = true
  bInvalidFact : PySem.W.subIn K (.ref CInvalidFact) (.type "BaseException") = some true
  tInvalidFact : PySem.W.typeIn K (.ref CInvalidFact) = some (.type "type")
  eInvalidFact : PySem.W.exmOne K (.ref CInvalidFact) (.ref CInvalidFact) = some true
  c_MAX_PLACES : ∃ t, mg "MAX_PLACES" = some (.int 3 t)
  c_LONGEST_NAME : ∃ t, mg "LONGEST_NAME" = some (.int 8 t)
  awritten : Addr
  dwritten : FuncData
  fwritten : Fun K "written" "written" s_written awritten dwritten
  nwritten : Binds K dwritten ["term"] []
  gwritten : mg "written" = some (.ref awritten)
  ais_name : Addr
  dis_name : FuncData
  fis_name : Fun K "is_name" "is_name" s_is_name ais_name dis_name
  nis_name : Binds K dis_name ["value"] []
  gis_name : mg "is_name" = some (.ref ais_name)
  ais_term : Addr
  dis_term : FuncData
  fis_term : Fun K "is_term" "is_term" s_is_term ais_term dis_term
  nis_term : Binds K dis_term ["value"] []
  gis_term : mg "is_term" = some (.ref ais_term)
  aread_term : Addr
  dread_term : FuncData
  fread_term : Fun K "read_term" "read_term" s_read_term aread_term dread_term
  nread_term : Binds K dread_term ["text"] []
  gread_term : mg "read_term" = some (.ref aread_term)
  ajoint_places : Addr
  djoint_places : FuncData
  fjoint_places : Fun K "joint_places" "joint_places" s_joint_places ajoint_places djoint_places
  njoint_places : Binds K djoint_places ["values"] []
  gjoint_places : mg "joint_places" = some (.ref ajoint_places)
  ahas_form : Addr
  dhas_form : FuncData
  fhas_form : Fun K "has_form" "has_form" s_has_form ahas_form dhas_form
  nhas_form : Binds K dhas_form ["value"] []
  ghas_form : mg "has_form" = some (.ref ahas_form)
  awords_in : Addr
  dwords_in : FuncData
  fwords_in : Fun K "words_in" "words_in" s_words_in awords_in dwords_in
  nwords_in : Binds K dwords_in ["text"] []
  gwords_in : mg "words_in" = some (.ref awords_in)
  aparsed : Addr
  dparsed : FuncData
  fparsed : Fun K "parsed" "parsed" s_parsed aparsed dparsed
  nparsed : Binds K dparsed ["words"] []
  gparsed : mg "parsed" = some (.ref aparsed)
  ais_fact : Addr
  dis_fact : FuncData
  fis_fact : Fun K "is_fact" "is_fact" s_is_fact ais_fact dis_fact
  nis_fact : Binds K dis_fact ["value"] []
  gis_fact : mg "is_fact" = some (.ref ais_fact)
  afact_text : Addr
  dfact_text : FuncData
  ffact_text : Fun K "fact_text" "fact_text" s_fact_text afact_text dfact_text
  nfact_text : Binds K dfact_text ["fact"] []
  gfact_text : mg "fact_text" = some (.ref afact_text)
  aread_fact : Addr
  dread_fact : FuncData
  fread_fact : Fun K "read_fact" "read_fact" s_read_fact aread_fact dread_fact
  nread_fact : Binds K dread_fact ["text"] []
  gread_fact : mg "read_fact" = some (.ref aread_fact)
  acheck_fact : Addr
  dcheck_fact : FuncData
  fcheck_fact : Fun K "check_fact" "check_fact" s_check_fact acheck_fact dcheck_fact
  ncheck_fact : Binds K dcheck_fact ["value"] []
  gcheck_fact : mg "check_fact" = some (.ref acheck_fact)
  ais_couple : Addr
  dis_couple : FuncData
  fis_couple : Fun K "is_couple" "is_couple" s_is_couple ais_couple dis_couple
  nis_couple : Binds K dis_couple ["value"] []
  gis_couple : mg "is_couple" = some (.ref ais_couple)
  aare_couples : Addr
  dare_couples : FuncData
  fare_couples : Fun K "are_couples" "are_couples" s_are_couples aare_couples dare_couples
  nare_couples : Binds K dare_couples ["values"] []
  gare_couples : mg "are_couples" = some (.ref aare_couples)
  ais_ordered : Addr
  dis_ordered : FuncData
  fis_ordered : Fun K "is_ordered" "is_ordered" s_is_ordered ais_ordered dis_ordered
  nis_ordered : Binds K dis_ordered ["couple"] []
  gis_ordered : mg "is_ordered" = some (.ref ais_ordered)
  akey_of : Addr
  dkey_of : FuncData
  fkey_of : Fun K "key_of" "key_of" s_key_of akey_of dkey_of
  nkey_of : Binds K dkey_of ["couple"] []
  gkey_of : mg "key_of" = some (.ref akey_of)
  asides_of : Addr
  dsides_of : FuncData
  fsides_of : Fun K "sides_of" "sides_of" s_sides_of asides_of dsides_of
  nsides_of : Binds K dsides_of ["couples"] []
  gsides_of : mg "sides_of" = some (.ref asides_of)
  apairs_in : Addr
  dpairs_in : FuncData
  fpairs_in : Fun K "pairs_in" "pairs_in" s_pairs_in apairs_in dpairs_in
  npairs_in : Binds K dpairs_in ["fact"] []
  gpairs_in : mg "pairs_in" = some (.ref apairs_in)
  aread_couple : Addr
  dread_couple : FuncData
  fread_couple : Fun K "read_couple" "read_couple" s_read_couple aread_couple dread_couple
  nread_couple : Binds K dread_couple ["text"] []
  gread_couple : mg "read_couple" = some (.ref aread_couple)
  a_law_dice : Addr
  d_law_dice : FuncData
  f_law_dice : Fun K "_law_dice" "_law_dice" s__law_dice a_law_dice d_law_dice
  n_law_dice : Binds K d_law_dice ["script", "spot"] []
  g_law_dice : mg "_law_dice" = some (.ref a_law_dice)
  a_law_roll : Addr
  d_law_roll : FuncData
  f_law_roll : Fun K "_law_roll" "_law_roll" s__law_roll a_law_roll d_law_roll
  n_law_roll : Binds K d_law_roll ["dice", "top"] []
  g_law_roll : mg "_law_roll" = some (.ref a_law_roll)
  a_law_pick : Addr
  d_law_pick : FuncData
  f_law_pick : Fun K "_law_pick" "_law_pick" s__law_pick a_law_pick d_law_pick
  n_law_pick : Binds K d_law_pick ["dice", "items"] []
  g_law_pick : mg "_law_pick" = some (.ref a_law_pick)
  a_law_mixed : Addr
  d_law_mixed : FuncData
  f_law_mixed : Fun K "_law_mixed" "_law_mixed" s__law_mixed a_law_mixed d_law_mixed
  n_law_mixed : Binds K d_law_mixed ["dice", "items"] []
  g_law_mixed : mg "_law_mixed" = some (.ref a_law_mixed)
  a_law_text : Addr
  d_law_text : FuncData
  f_law_text : Fun K "_law_text" "_law_text" s__law_text a_law_text d_law_text
  n_law_text : Binds K d_law_text ["term"] []
  g_law_text : mg "_law_text" = some (.ref a_law_text)
  a_law_pair : Addr
  d_law_pair : FuncData
  f_law_pair : Fun K "_law_pair" "_law_pair" s__law_pair a_law_pair d_law_pair
  n_law_pair : Binds K d_law_pair ["one", "other"] []
  g_law_pair : mg "_law_pair" = some (.ref a_law_pair)
  a_law_fact_text : Addr
  d_law_fact_text : FuncData
  f_law_fact_text : Fun K "_law_fact_text" "_law_fact_text" s__law_fact_text a_law_fact_text d_law_fact_text
  n_law_fact_text : Binds K d_law_fact_text ["fact"] []
  g_law_fact_text : mg "_law_fact_text" = some (.ref a_law_fact_text)
  a_law_names : Addr
  d_law_names : FuncData
  f_law_names : Fun K "_law_names" "_law_names" s__law_names a_law_names d_law_names
  n_law_names : Binds K d_law_names ["dice", "few"] []
  g_law_names : mg "_law_names" = some (.ref a_law_names)
  a_law_term : Addr
  d_law_term : FuncData
  f_law_term : Fun K "_law_term" "_law_term" s__law_term a_law_term d_law_term
  n_law_term : Binds K d_law_term ["dice", "names", "deep"] []
  g_law_term : mg "_law_term" = some (.ref a_law_term)
  a_law_drawn_pair : Addr
  d_law_drawn_pair : FuncData
  f_law_drawn_pair : Fun K "_law_drawn_pair" "_law_drawn_pair" s__law_drawn_pair a_law_drawn_pair d_law_drawn_pair
  n_law_drawn_pair : Binds K d_law_drawn_pair ["dice", "names", "deep"] []
  g_law_drawn_pair : mg "_law_drawn_pair" = some (.ref a_law_drawn_pair)
  a_law_drawn_fact : Addr
  d_law_drawn_fact : FuncData
  f_law_drawn_fact : Fun K "_law_drawn_fact" "_law_drawn_fact" s__law_drawn_fact a_law_drawn_fact d_law_drawn_fact
  n_law_drawn_fact : Binds K d_law_drawn_fact ["dice", "names", "deep", "most"] []
  g_law_drawn_fact : mg "_law_drawn_fact" = some (.ref a_law_drawn_fact)
  a_law_read : Addr
  d_law_read : FuncData
  f_law_read : Fun K "_law_read" "_law_read" s__law_read a_law_read d_law_read
  n_law_read : Binds K d_law_read ["text"] []
  g_law_read : mg "_law_read" = some (.ref a_law_read)
  a_law_term_read : Addr
  d_law_term_read : FuncData
  f_law_term_read : Fun K "_law_term_read" "_law_term_read" s__law_term_read a_law_term_read d_law_term_read
  n_law_term_read : Binds K d_law_term_read ["text"] []
  g_law_term_read : mg "_law_term_read" = some (.ref a_law_term_read)
  a_law_pair_read : Addr
  d_law_pair_read : FuncData
  f_law_pair_read : Fun K "_law_pair_read" "_law_pair_read" s__law_pair_read a_law_pair_read d_law_pair_read
  n_law_pair_read : Binds K d_law_pair_read ["text"] []
  g_law_pair_read : mg "_law_pair_read" = some (.ref a_law_pair_read)
  a_law_count : Addr
  d_law_count : FuncData
  f_law_count : Fun K "_law_count" "_law_count" s__law_count a_law_count d_law_count
  n_law_count : Binds K d_law_count ["term", "counts"] []
  g_law_count : mg "_law_count" = some (.ref a_law_count)
  a_law_due : Addr
  d_law_due : FuncData
  f_law_due : Fun K "_law_due" "_law_due" s__law_due a_law_due d_law_due
  n_law_due : Binds K d_law_due ["text"] []
  g_law_due : mg "_law_due" = some (.ref a_law_due)
  a_law_spoilt : Addr
  d_law_spoilt : FuncData
  f_law_spoilt : Fun K "_law_spoilt" "_law_spoilt" s__law_spoilt a_law_spoilt d_law_spoilt
  n_law_spoilt : Binds K d_law_spoilt ["dice", "text"] []
  g_law_spoilt : mg "_law_spoilt" = some (.ref a_law_spoilt)
  alaw : Addr
  dlaw : FuncData
  flaw : Fun K "law" "law" s_law alaw dlaw
  nlaw : Binds K dlaw ["script"] []
  glaw : mg "law" = some (.ref alaw)
end K13
/-! Data at addresses, its text, its order. -/
namespace Kx
open PySem PySem.Spec PyProof.Rows L2
/-- a key as data -/
def keyD : Key → PyData
  | .inl i => .int i
  | .inr x => .str x
/-- the pairs of a dict as data; the values are flat -/
inductive KvD : List (Key × V) → List (PyData × PyData) → Prop
  | nil : KvD [] []
  | int {k : Key} {i : Int} {r : List (Key × V)} {ds : List (PyData × PyData)} : KvD r ds → KvD ((k, .int i) :: r) ((keyD k, .int i) :: ds)
  | str {k : Key} {x : Str} {r : List (Key × V)} {ds : List (PyData × PyData)} : KvD r ds → KvD ((k, .str x) :: r) ((keyD k, .str x) :: ds)
mutual
/-- v stands for the data d: as Dp, and dicts -/
inductive Dx (K : PySem.W.Frag) (H : Hp) : V → PyData → Prop
  | non : Dx K H .non .none
  | bl (b : Bool) : Dx K H (.bl b) (.bool b)
  | int (i : Int) : Dx K H (.int i) (.int i)
  | str (x : Str) : Dx K H (.str x) (.str x)
  | lst {a : Addr} {xs : List V} {ds : List PyData} : H a = some (.lst xs) → DxAll K H xs ds → Dx K H (.ref a) (.list ds)
  | tup {a : Addr} {xs : List V} {ds : List PyData} : H a = some (.tup xs) → DxAll K H xs ds → Dx K H (.ref a) (.tuple ds)
  | dic {a : Addr} {kvs : List (Key × V)} {ds : List (PyData × PyData)} : H a = some (.dK kvs) → KvD kvs ds → Dx K H (.ref a) (.dict ds)
inductive DxAll (K : PySem.W.Frag) (H : Hp) : List V → List PyData → Prop
  | nil : DxAll K H [] []
  | cons {v : V} {vs : List V} {d : PyData} {ds : List PyData} : Dx K H v d → DxAll K H vs ds → DxAll K H (v :: vs) (d :: ds)
end
section
variable {K : PySem.W.Frag} {H H' : Hp}
theorem Same.tup {a : Addr} {xs : List V} (e : Same H H') (h : SqT K H a xs) : SqT K H' a xs := by
  rcases h with (h | ⟨o, h⟩) | h
  · exact .inl (.inl (e _ _ h))
  · exact .inl (.inr ⟨o, e _ _ h⟩)
  · exact .inr h
mutual
theorem Dx.up (e : Same H H') : ∀ {d : PyData} {v : V}, Dx K H v d → Dx K H' v d
  | .none, _, h => by cases h; exact .non
  | .bool b, _, h => by cases h; exact .bl b
  | .int i, _, h => by cases h; exact .int i
  | .str x, _, h => by cases h; exact .str x
  | .list ds, _, h => by cases h with | lst a b => exact .lst (e _ _ a) (DxAll.up e b)
  | .tuple ds, _, h => by cases h with | tup a b => exact .tup (e _ _ a) (DxAll.up e b)
  | .dict ds, _, h => by cases h with | dic a b => exact .dic (e _ _ a) b
theorem DxAll.up (e : Same H H') : ∀ {ds : List PyData} {vs : List V}, DxAll K H vs ds → DxAll K H' vs ds
  | [], _, h => by cases h; exact .nil
  | d :: ds, _, h => by cases h with | cons a b => exact .cons (Dx.up e a) (DxAll.up e b)
end
mutual
/-- data without dicts -/
theorem Dx.dp : ∀ {d : PyData} {v : V}, d.hasDict = false → Dx K H v d → Dp K H v d
  | .none, _, _, h => by cases h; exact .non
  | .bool b, _, _, h => by cases h; exact .bl b
  | .int i, _, _, h => by cases h; exact .int i
  | .str x, _, _, h => by cases h; exact .str x
  | .list ds, _, z, h => by cases h with | lst a b => exact .lst (.inl (.inl a)) (DxAll.dp (by simpa [PyData.hasDict] using z) b)
  | .tuple ds, _, z, h => by cases h with | tup a b => exact .tup (.inl (.inl a)) (DxAll.dp (by simpa [PyData.hasDict] using z) b)
  | .dict ds, _, z, h => by simp [PyData.hasDict] at z
theorem DxAll.dp : ∀ {ds : List PyData} {vs : List V}, PyData.hasDictAll ds = false → DxAll K H vs ds → DpAll K H vs ds
  | [], _, _, h => by cases h; exact .nil
  | d :: ds, _, z, h => by
    cases h with
    | cons a b =>
      have z' : d.hasDict = false ∧ PyData.hasDictAll ds = false := by simpa [PyData.hasDictAll] using z
      exact .cons (Dx.dp z'.1 a) (DxAll.dp z'.2 b)
end
theorem DxAll.length : ∀ {vs : List V} {ds : List PyData}, DxAll K H vs ds → vs.length = ds.length
  | _, _, .nil => rfl
  | _, _, .cons _ t => by rw [List.length_cons, List.length_cons, DxAll.length t]
theorem DxAll.append : ∀ {vs us : List V} {ds es : List PyData}, DxAll K H vs ds → DxAll K H us es → DxAll K H (vs ++ us) (ds ++ es)
  | _, _, _, _, .nil, h => h
  | _, _, _, _, .cons a t, h => .cons a (DxAll.append t h)
theorem DxAll.get : ∀ {vs : List V} {ds : List PyData} {i : Nat} {d : PyData}, DxAll K H vs ds → ds[i]? = some d → ∃ v, vs[i]? = some v ∧ Dx K H v d
  | _, _, _, _, .nil, h => by simp at h
  | _, _, 0, _, .cons a _, h => by
    simp at h
    subst h
    exact ⟨_, rfl, a⟩
  | _, _, i + 1, _, .cons _ t, h => by
    obtain ⟨v, e, x⟩ := DxAll.get (i := i) t (by simpa using h)
    exact ⟨v, by simpa using e, x⟩
theorem DxAll.take : ∀ {vs : List V} {ds : List PyData} (i : Nat), DxAll K H vs ds → DxAll K H (vs.take i) (ds.take i)
  | _, _, 0, _ => .nil
  | _, _, _ + 1, .nil => .nil
  | _, _, i + 1, .cons a t => .cons a (DxAll.take i t)
theorem DxAll.drop : ∀ {vs : List V} {ds : List PyData} (i : Nat), DxAll K H vs ds → DxAll K H (vs.drop i) (ds.drop i)
  | _, _, 0, h => h
  | _, _, _ + 1, .nil => .nil
  | _, _, i + 1, .cons _ t => DxAll.drop i t
end
/-- the class of data -/
def tyD : PyData → String
  | .none => "NoneType"
  | .bool _ => "bool"
  | .int _ => "int"
  | .str _ => "str"
  | .list _ => "list"
  | .tuple _ => "tuple"
  | .dict _ => "dict"
theorem Dx.ty {K : PySem.W.Frag} {H : Hp} {d : PyData} {v : V} (h : Dx K H v d) : TyX K H v (.type (tyD d)) := by
  cases h with
  | non => exact .base .non
  | bl b => exact .base (.bl b)
  | int i => exact .base (.int i)
  | str x => exact .base (.str x)
  | lst a _ => exact .base (.lst a)
  | tup a _ => exact .base (.tup a)
  | dic a _ => exact .base (.dK a)
mutual
/-- no list within -/
def noL : PyData → Bool
  | .list _ => false
  | .tuple ds => noLs ds
  | _ => true
def noLs : List PyData → Bool
  | [] => true
  | d :: ds => noL d && noLs ds
end
section
variable {X : Cx} {pins : List (Addr × Obj)} {σ : L2.St} {H : Hp} {s : Shared}
theorem kv_reads {P : Program} {w : World} {h : Heap} : ∀ {kvs : List (Key × V)} {ds : List (PyData × PyData)} {vs : List (Key × Value)} {es : List DictEntry}, KvD kvs ds → KV kvs vs → Pairs (mixKind P w) es vs →
    ReadsAll h (es.map (·.key)) (ds.map (·.1)) [] ∧ ReadsAll h (es.map (·.val)) (ds.map (·.2)) []
  | _, _, _, _, .nil, r, p => by
    cases r
    cases p
    exact ⟨.nil, .nil⟩
  | _, _, _, _, .int (k := k) (i := i) t, r, p => by
    cases r with
    | cons r0 rt =>
      cases p with
      | cons p1 p2 pt =>
        obtain ⟨a, b⟩ := kv_reads (h := h) t rt pt
        obtain ⟨r1, tk, r2⟩ := r0
        refine ⟨ReadsAll.cons (as := []) (bs := []) ?_ a, ReadsAll.cons (as := []) (bs := []) ?_ b⟩
        · rw [← r1] at p1
          rcases keyIs_shape p1 with ⟨j, u, rfl, ee⟩ | ⟨x, u, rfl, ee⟩
          · dsimp only; rw [ee]; exact Reads.int j u
          · dsimp only; rw [ee]; exact Reads.str x u
        · dsimp only
          rw [p2, r2]
          exact Reads.int i tk
  | _, _, _, _, .str (k := k) (x := i) t, r, p => by
    cases r with
    | cons r0 rt =>
      cases p with
      | cons p1 p2 pt =>
        obtain ⟨a, b⟩ := kv_reads (h := h) t rt pt
        obtain ⟨r1, tk, r2⟩ := r0
        refine ⟨ReadsAll.cons (as := []) (bs := []) ?_ a, ReadsAll.cons (as := []) (bs := []) ?_ b⟩
        · rw [← r1] at p1
          rcases keyIs_shape p1 with ⟨j, u, rfl, ee⟩ | ⟨x, u, rfl, ee⟩
          · dsimp only; rw [ee]; exact Reads.int j u
          · dsimp only; rw [ee]; exact Reads.str x u
        · dsimp only
          rw [p2, r2]
          exact Reads.str i tk
mutual
theorem Dx.reads (I : Inv X pins σ H s) : ∀ (d : PyData) (v : V) (u : Value), Dx X.K H v d → RelV v u → ∃ as, Reads s.heap u d as ∧ (noL d = true → sysModules ∉ as)
  | .none, _, _, h, r => by
    cases h
    cases r
    exact ⟨_, Reads.none, fun _ => by simp⟩
  | .bool b, _, _, h, r => by
    cases h
    cases r
    exact ⟨_, Reads.bool b, fun _ => by simp⟩
  | .int i, _, _, h, r => by
    cases h
    obtain ⟨t, rfl⟩ := r
    exact ⟨_, Reads.int i t, fun _ => by simp⟩
  | .str x, _, _, h, r => by
    cases h
    obtain ⟨t, rfl⟩ := r
    exact ⟨_, Reads.str x t, fun _ => by simp⟩
  | .list ds, _, _, h, r => by
    cases h with
    | lst hs ha =>
      cases r
      obtain ⟨its, rv, ⟨o, n, ho, hc, _, hd⟩, _⟩ := I.list (SqL.of hs)
      obtain ⟨as, hr, _⟩ := DxAll.reads I ds _ its ha rv
      exact ⟨_, Reads.list ho hc hd hr, fun z => by simp [noL] at z⟩
  | .tuple ds, _, _, h, r => by
    cases h with
    | tup hs ha =>
      cases r
      obtain ⟨its, rv, ⟨o, ho, hc, n, hd⟩, _⟩ := I.tuple (SqT.of hs)
      obtain ⟨as, hr, z⟩ := DxAll.reads I ds _ its ha rv
      exact ⟨_, Reads.tuple ho hc hd hr, fun q => z (by simpa [noL] using q)⟩
  | .dict ds, _, _, h, r => by
    cases h with
    | dic hs ha =>
      cases r
      obtain ⟨_, ns, vs, rv, o, es, ep, h1, h2, h3, h4, h5, h6⟩ := I.hok _ _ hs
      obtain ⟨q1, q2⟩ := kv_reads (h := s.heap) ha rv h5
      refine ⟨_, Reads.dict h1 h2.1 h3 q1 q2, fun _ => ?_⟩
      have ne : ¬ _ = sysModules := beq_eq_false_iff_ne.mp ns
      simp only [List.append_nil, List.mem_singleton]
      exact fun e => ne e.symm
theorem DxAll.reads (I : Inv X pins σ H s) : ∀ (ds : List PyData) (vs : List V) (us : List Value), DxAll X.K H vs ds → Vals vs us → ∃ as, ReadsAll s.heap us ds as ∧ (noLs ds = true → sysModules ∉ as)
  | [], _, _, h, r => by
    cases h
    cases r
    exact ⟨_, ReadsAll.nil, fun _ => by simp⟩
  | d :: ds, _, _, h, r => by
    cases h with
    | cons h1 h2 =>
      cases r with
      | cons r1 r2 =>
        obtain ⟨as, q1, z1⟩ := Dx.reads I d _ _ h1 r1
        obtain ⟨bs, q2, z2⟩ := DxAll.reads I ds _ _ h2 r2
        refine ⟨_, ReadsAll.cons q1 q2, fun z => ?_⟩
        have z' : noL d = true ∧ noLs ds = true := by simpa [noLs] using z
        simp only [List.mem_append, not_or]
        exact ⟨z1 z'.1, z2 z'.2⟩
end
end
section
variable {X : Cx}
/-- repr(x) of data, where nothing around shows itself -/
def rRepr (K : PySem.W.Frag) : List V → Hp → VK → Prop := fun xs H Q => ∃ x d, xs = [x] ∧ Dx K H x d ∧ d.showable = true ∧ (d.hasDict = true → noL d = true) ∧ d.depth ≤ 60 ∧ d.shown.length + 64 ≤ sizeLine ∧ Q (.str d.shown) H
theorem cr_repr (cm : Calm X.A) (hu : X.A.units + 64 < cLine) : CallR X (.builtin "repr") (rRepr X.K) := by
  intro pins s σ H xs us Q I rv h
  obtain ⟨x, d, rfl, hx, sh, hd, dp, sz, q⟩ := h
  obtain ⟨u, rfl, ru⟩ := rv.one
  obtain ⟨as, rd, ns⟩ := Dx.reads I d x u hx ru
  cases rd with
  | none => exact PySem.P.repr_of_none ⟨.str _, H, I.tok _, ⟨_, rfl⟩, q⟩
  | bool b => exact PySem.P.repr_of_bool ⟨.str _, H, I.tok _, ⟨_, rfl⟩, by simpa [PyData.shown] using q⟩
  | int i t => exact PySem.P.repr_of_int (by simpa [PyData.showable] using sh) ⟨.str _, H, I.tok _, ⟨_, rfl⟩, q⟩
  | str z t => exact PySem.P.repr_of_str ⟨.str _, H, I.tok _, ⟨_, rfl⟩, q⟩ (Nat.le_trans (Nat.le_add_right _ 64) (by simpa [PyData.shown] using sz))
  | list h1 h2 h3 h4 =>
    exact repr_of_reads' (.list h1 h2 h3 h4) sh (fun z => ns (hd z)) cm (by omega) (fun _ _ e => e) (fun h' u tk k => ⟨.str _, H, I.kept k, ⟨_, rfl⟩, q⟩) (by omega)
  | tuple h1 h2 h3 h4 =>
    exact repr_of_reads' (.tuple h1 h2 h3 h4) sh (fun z => ns (hd z)) cm (by omega) (fun _ _ e => e) (fun h' u tk k => ⟨.str _, H, I.kept k, ⟨_, rfl⟩, q⟩) (by omega)
  | dict h1 h2 h3 h4 h5 =>
    exact repr_of_reads' (.dict h1 h2 h3 h4 h5) sh (fun z => ns (hd z)) cm (by omega) (fun _ _ e => e) (fun h' u tk k => ⟨.str _, H, I.kept k, ⟨_, rfl⟩, q⟩) (by omega)
/-- sorted(xs), by the data of the items -/
abbrev Item := V × PyData
def rSortD (K : PySem.W.Frag) : List V → Hp → VK → Prop := fun xs H Q => ∃ (a : Addr) (zs : List Item), xs = [.ref a] ∧ SqL K H a (zs.map Prod.fst) ∧ (∀ p, p ∈ zs → Dp K H p.1 p.2) ∧ PySem.W.AllAlike (zs.map Prod.snd) ∧ PySem.W.Sortable (zs.map Prod.snd) ∧
  zs.length ≤ sizeLine ∧ (∀ p, p ∈ zs → p.2.depth ≤ 60) ∧ ∀ p, H p = none → Q (.ref p) (upd H p (.lst ((zs.mergeSort (PySem.W.dataLe false Prod.snd)).map Prod.fst)))
theorem cr_sortedD (hu : X.A.units + 64 < cLine) : CallR X (.builtin "sorted") (rSortD X.K) := by
  intro pins s σ H xs us Q I rv h
  obtain ⟨a, zs, rfl, hl, hz, al, so, sz, dp, q⟩ := h
  obtain ⟨u, rfl, ru⟩ := rv.one
  cases ru
  obtain ⟨its, r, pl, nl⟩ := I.list hl
  have each : ∀ (zs : List Item) (its : List Value), Vals (zs.map Prod.fst) its → (∀ p, p ∈ zs → Dp X.K H p.1 p.2) → PySem.W.EachIs (fun u (p : Item) => RelV p.1 u ∧ ∃ as, Reads s.heap u p.2 as) its zs := by
    intro zs
    induction zs with
    | nil =>
      intro its r _
      cases r
      exact .nil
    | cons p zs ih =>
      intro its r hz
      cases r with
      | cons r1 rt => exact .cons ⟨r1, Dp.reads I _ _ _ (hz p List.mem_cons_self) r1⟩ (ih _ rt fun q hq => hz q (List.mem_cons_of_mem _ hq))
  have e := each zs its r hz
  have back : ∀ {out : List Value} {ys : List Item}, PySem.W.EachIs (fun u (p : Item) => RelV p.1 u ∧ ∃ as, Reads s.heap u p.2 as) out ys → Vals (ys.map Prod.fst) out := by
    intro out ys h
    induction h with
    | nil => exact .nil
    | cons h _ ih => exact .cons h.1 ih
  refine PySem.W.sorted_data pl.isList e (e.mono fun _ _ h => h.2) al so sz (fun b hb => by have := dp b hb; omega) ?_
  intro out ho eo
  obtain ⟨ep, he⟩ := PyProof.Rows.sortedAll_at s.heap its out.toArray
  have rr := back eo
  have ln : ((zs.mergeSort (PySem.W.dataLe false Prod.snd)).map Prod.fst).length ≤ sizeLine := by
    rw [List.length_map, List.length_mergeSort]
    exact sz
  exact ⟨.ref _, upd H (s.heap.objs.size + 1) (.lst ((zs.mergeSort (PySem.W.dataLe false Prod.snd)).map Prod.fst)), I.laid (t' := s.toks) (fun _ _ => PyProof.Rows.sortedAll_old) (Nat.le_succ _) ⟨ln, out, ep, rr, he⟩, rfl, q _ (I.hok.fresh (Nat.le_succ _))⟩
end
end Kx
/-! The dice. -/
namespace K13
open PySem PySem.Spec PyProof.Rows L2 Kx
/-- all but a stands -/
def But (a : Addr) (H H' : Hp) : Prop := ∀ b o, H b = some o → b ≠ a → H' b = some o
theorem But.refl (a : Addr) (H : Hp) : But a H H := fun _ _ h _ => h
theorem But.trans {a : Addr} {H H1 H2 : Hp} (x : But a H H1) (y : But a H1 H2) : But a H H2 := fun b o h n => y b o (x b o h n) n
theorem But.of {a : Addr} {H H' : Hp} (x : Same H H') : But a H H' := fun b o h _ => x b o h
theorem But.upd {a : Addr} {H : Hp} {o : HO} : But a H (upd H a o) := fun b u h n => by rw [upd_ne n]; exact h
theorem same_new {H : Hp} {p : Addr} {o : HO} (h : H p = none) : Same H (upd H p o) := fun b x e => by
  rw [upd_ne (ne_of_none e h)]
  exact e
/-- dice at a, rolled n times at most -/
def Dice (H : Hp) (a : Addr) (n : Nat) : Prop := ∃ i0 i1 i2 : Int, H a = some (.lst [.int i0, .int i1, .int i2]) ∧ 0 ≤ i0 ∧ i0 < 2 ^ 2200 ∧ 0 ≤ i1 ∧ i1 < 2 ^ 61 ∧ 0 ≤ i2 ∧ i2 ≤ n
theorem Dice.up {H H' : Hp} {a : Addr} {n : Nat} (d : Dice H a n) (e : Same H H') : Dice H' a n := by
  obtain ⟨i0, i1, i2, h, r⟩ := d
  exact ⟨i0, i1, i2, e _ _ h, r⟩
theorem Dice.le {H : Hp} {a : Addr} {n m : Nat} (d : Dice H a n) (e : n ≤ m) : Dice H a m := by
  obtain ⟨i0, i1, i2, h, a1, a2, a3, a4, a5, a6⟩ := d
  exact ⟨i0, i1, i2, h, a1, a2, a3, a4, a5, by omega⟩
section
variable {P : Program} {w : World} {K : PySem.W.Frag} {mg : Str → Option Value} {base : Heap}
def spDice (K : PySem.W.Frag) : Sp := fun vs H Q _ => ∃ (a : Addr) (ns : List Int) (k : Nat), vs = [.ref a, .int k] ∧ SqL K H a (ns.map V.int) ∧ k < 1000 ∧ ∀ H' p, Same H H' → H p = none → Dice H' p 0 → Q (.ref p) H'
theorem ok_dice (T : Tx K mg) : FnOk P w K mg base CX0 1 T.a_law_dice T.d_law_dice ["script", "spot"] (spDice K) := by
  have nd := sc__law_dice.nd
  refine T.f_law_dice.ok sc__law_dice (fun vs H Q E h => ?_) (fun cdv A outer s H vs Q E hr h => ?_)
  · obtain ⟨a, ns, k, rfl, _⟩ := h
    rfl
  · obtain ⟨a, ns, k, rfl, hS, hk, q⟩ := h
    refine ⟨_, (C8.pss_cut (ps_set (i := 2) nd rfl (.inl rfl) (pe_ifExp (pt_cmpR op_lt (pv 1) (pe_callB call_len_seq (by rfl) T.b_len (by decide +kernel) (pa_cons (pv 0) pa_nil)) (nomark _)) (pe_ix ix_list (pv 0) (pv 1) (fun _ _ => rfl)) (pe_op op_add (pe_op op_mul pe_int (pv 1)) pe_int)))
      (pss_cons (ps_set (i := 3) nd rfl (.inl rfl) (pe_op op_mod (pe_callTy call_int1 (by rfl) T.b_int (by decide +kernel) (pa_cons (pe_callB call_abs (by rfl) T.b_abs (by decide +kernel) (pa_cons (pv 2) pa_nil)) pa_nil)) (pe_op op_powX (pe_op op_pow pe_int pe_int) pe_int)))
      (pss_cons (ps_set (i := 4) nd rfl (.inl rfl) (pe_op op_mul (pe_op op_mod (pe_callTy call_int1 (by rfl) T.b_int (by decide +kernel) (pa_cons (pv 3) pa_nil)) pe_int) pe_int))
      (pss_cons (ps_set (i := 4) nd rfl (.inl rfl) (pe_op op_add (pe_op op_add (pe_op op_add (pv 4) (pe_op op_mul pe_int (pv 1))) (pe_op op_mul pe_int (pe_callTy call_int1 (by rfl) T.b_int (by decide +kernel) (pa_cons (pe_cmpR op_lt (pv 2) pe_int (nomark _)) pa_nil)))) pe_int))
      (pss_one (ps_ret (pe_lst (pa_cons (pe_callB (call_max2 rfl) (by rfl) T.b_max (by decide +kernel) (pa_cons pe_int (pa_cons (pe_op op_add (pe_op op_sub (pv 3) (pe_op op_pow pe_int pe_int)) pe_int) pa_nil))) (pa_cons (pe_op op_mod (pe_callTy call_int1 (by rfl) T.b_int (by decide +kernel) (pa_cons (pv 4) pa_nil)) pe_int) (pa_cons pe_int pa_nil)))))))))), ?_⟩
    -- cell: one or the other int
    refine ⟨fun σ' H' => H' = H ∧ ∃ c : Int, σ' = [some (.ref a), some (.int k), some (.int c), none, none], ?_, ?_⟩
    · refine ⟨_, rfl, .ref a, rfl, a, ns.map V.int, rfl, .inl hS, k, _, rfl, rfl, _, rfl, ite2 (fun hc => ?_) (fun hc => ?_)⟩
      · have lt : k < ns.length := by
          have z := of_decide_eq_true hc
          rw [List.length_map] at z
          omega
        refine ⟨.ref a, rfl, _, rfl, a, ns.map V.int, (k : Int), .int ns[k], rfl, rfl, hS, atI_nat (by rw [List.getElem?_map, List.getElem?_eq_getElem lt]; rfl), rfl, ns[k], rfl⟩
      · exact ⟨_, rfl, 37, k, rfl, rfl, .inl ⟨by decide, by decide⟩, _, _, rfl, rfl, rfl, _, rfl⟩
    rintro σ' H' ⟨rfl, c, rfl⟩
    -- great
    refine ⟨_, rfl, c, rfl, .inl ⟨_, rfl, 10, 59, rfl, rfl, ⟨by decide, by decide, by decide⟩, _, 11, rfl, rfl, ⟨by decide, by decide +kernel⟩, _, _, rfl, rfl, (show (0 : Int) < ((10 : Int) ^ (59 : Int).toNat) ^ (11 : Int).toNat by decide +kernel), ?_⟩⟩
    dsimp only
    have g0 := Int.emod_nonneg (if c < 0 then -c else c) (show ((10 : Int) ^ (59 : Int).toNat) ^ (11 : Int).toNat ≠ 0 by decide +kernel)
    have g1 := Int.emod_lt_of_pos (if c < 0 then -c else c) (show (0 : Int) < ((10 : Int) ^ (59 : Int).toNat) ^ (11 : Int).toNat by decide +kernel)
    have g2 : ((10 : Int) ^ (59 : Int).toNat) ^ (11 : Int).toNat < 2 ^ 2200 := by decide +kernel
    have g3 := Int.lt_trans g1 g2
    clear g1 g2
    generalize (if c < 0 then -c else c) % ((10 : Int) ^ (59 : Int).toNat) ^ (11 : Int).toNat = g at g0 g3 ⊢
    -- mixed
    refine ⟨_, rfl, .inl ⟨g, rfl, g, 2305843009213693951, rfl, rfl, (show (0 : Int) < 2305843009213693951 by decide), _, 7046029254386353, rfl, rfl, .inr ⟨by decide, by decide⟩, ?_⟩⟩
    refine ⟨_, rfl, _, rfl, 131, k, rfl, rfl, .inl ⟨by decide, by decide⟩, _, _, rfl, rfl, _, rfl, c, 0, rfl, rfl, .inr ⟨_, rfl, 17, _, rfl, rfl, .inl ⟨by decide, by decide⟩, _, _, rfl, rfl, _, 3, rfl, rfl, ?_⟩⟩
    dsimp only
    generalize g % 2305843009213693951 * 7046029254386353 + 131 * (k : Int) + 17 * (if decide (c < 0) = true then 1 else 0) + 3 = m
    -- the list
    refine ⟨_, rfl, 10, 18, rfl, rfl, ⟨by decide, by decide, by decide⟩, g, _, rfl, rfl, _, 1, rfl, rfl, 0, _, rfl, _, rfl, .inl ⟨m, rfl, m, 2305843009213693921, rfl, rfl, (show (0 : Int) < 2305843009213693921 by decide), by show 3 ≤ sizeLine; decide, fun p np => ?_⟩⟩
    refine q _ p (same_new np) np ⟨_, _, _, upd_same, ?_, ?_, Int.emod_nonneg _ (by decide), Int.lt_trans (Int.emod_lt_of_pos _ (by decide)) (by decide), by decide, by decide⟩
    · split <;> omega
    · split
      · have : (0 : Int) ≤ 10 ^ (18 : Int).toNat := by decide
        have z : (1 : Int) ≤ 10 ^ (18 : Int).toNat := by decide
        omega
      · decide
end
end K13
/-! The dice rolled; an item picked; items mixed. -/
namespace K13
open PySem PySem.Spec PyProof.Rows L2 Kx
section
variable {P : Program} {w : World} {K : PySem.W.Frag} {mg : Str → Option Value} {base : Heap}
def cap : Nat := 1000000
def spRoll : Sp := fun vs H Q _ => ∃ (a : Addr) (n : Nat) (m : Int), vs = [.ref a, .int m] ∧ Dice H a n ∧ n < cap ∧ 0 < m ∧ m < 1000000 ∧ ∀ (r : Int) H', But a H H' → Dice H' a (n + 1) → 0 ≤ r → r < m → Q (.int r) H'
theorem ok_roll (T : Tx K mg) : FnOk P w K mg base CX0 1 T.a_law_roll T.d_law_roll ["dice", "top"] spRoll := by
  have nd := sc__law_roll.nd
  refine T.f_law_roll.ok sc__law_roll (fun vs H Q E h => ?_) (fun cdv A outer s H vs Q E hr h => ?_)
  · obtain ⟨a, n, m, rfl, _⟩ := h
    rfl
  · obtain ⟨a, n, m, rfl, ⟨i0, i1, i2, hd, h0, h1, h2, h3, h4, h5⟩, hn, m0, m1, q⟩ := h
    have sl : SqL K H a [.int i0, .int i1, .int i2] := .inl (.inl hd)
    refine ⟨_, (pss_cons (ps_if (pt_cmpR op_gt (pe_ix ix_list (pv 0) pe_int (fun _ _ => rfl)) pe_int (nomark _)) (pss_cons (ps_set (i := 2) nd rfl (.inl rfl) (pe_op op_mod (pe_callTy call_int1 (by rfl) T.b_int (by decide +kernel) (pa_cons (pe_ix ix_list (pv 0) pe_int (fun _ _ => rfl)) pa_nil)) (pv 1)))
      (pss_cons (ps_asg (pe_op op_fdivW (pe_ix ix_list (pv 0) pe_int (fun _ _ => rfl)) (pv 1)) (pg_sub (pv 0) pe_int set_list))
      (pss_one (ps_ret (pv 2))))) pss_nil)
      (pss_cons (ps_asg (pe_op op_add (pe_ix ix_list (pv 0) pe_int (fun _ _ => rfl)) pe_int) (pg_sub (pv 0) pe_int set_list))
      (pss_cons (ps_set (i := 3) nd rfl (.inl rfl) (pe_op op_mod (pe_callTy call_int1 (by rfl) T.b_int (by decide +kernel) (pa_cons (pe_op op_add (pe_ix ix_list (pv 0) pe_int (fun _ _ => rfl)) (pe_op op_mul pe_int (pe_ix ix_list (pv 0) pe_int (fun _ _ => rfl)))) pa_nil)) pe_int))
      (pss_cons (ps_set (i := 4) nd rfl (.inl rfl) (pe_op op_add (pe_op op_mul (pe_op op_mod (pe_callTy call_int1 (by rfl) T.b_int (by decide +kernel) (pa_cons (pe_op op_mul (pv 3) (pv 3)) pa_nil)) pe_int) (pv 3)) (pe_op op_mul pe_int (pe_ix ix_list (pv 0) pe_int (fun _ _ => rfl)))))
      (pss_one (ps_ret (pe_op op_mod (pe_callTy call_int1 (by rfl) T.b_int (by decide +kernel) (pa_cons (pe_op op_fdiv (pe_op op_mod (pe_callTy call_int1 (by rfl) T.b_int (by decide +kernel) (pa_cons (pe_op op_add (pe_op op_mulW (pv 4) (pv 4)) (pe_ix ix_list (pv 0) pe_int (fun _ _ => rfl))) pa_nil)) pe_int) pe_int) pa_nil)) (pv 1)))))))), ?_⟩
    refine ⟨_, rfl, a, _, _, _, rfl, rfl, sl, atI_nat (j := 0) rfl, i0, 0, rfl, rfl, _, rfl, ite2 (fun hc => ?_) (fun hc => ?_)⟩
    · -- the great number
      refine ⟨_, rfl, a, _, _, _, rfl, rfl, sl, atI_nat (j := 0) rfl, .inl ⟨i0, rfl, _, rfl, i0, m, rfl, rfl, m0, ?_⟩⟩
      refine ⟨_, rfl, a, _, _, _, rfl, rfl, sl, atI_nat (j := 0) rfl, _, rfl, i0, m, rfl, rfl, wide_div m0 (b := 30) (by omega) (by decide) (by decide), _, rfl, a, _, _, 0, rfl, rfl, hd, rfl, ?_⟩
      refine ⟨_, rfl, q _ _ But.upd ⟨i0 / m, i1, i2, upd_same, Int.ediv_nonneg h0 (by omega), Int.lt_of_le_of_lt (Int.ediv_le_self _ h0) h1, h2, h3, h4, by omega⟩ (Int.emod_nonneg _ (by omega)) (Int.emod_lt_of_pos _ m0)⟩
    · -- the small one
      refine ⟨_, rfl, a, _, _, _, rfl, rfl, sl, atI_nat (j := 2) rfl, i2, 1, rfl, rfl, _, rfl, a, _, _, 2, rfl, rfl, hd, rfl, ?_⟩
      have hd2 : (upd H a (.lst ([V.int i0, V.int i1, V.int i2].set 2 (V.int (i2 + 1))))) a = some (.lst [V.int i0, V.int i1, V.int (i2 + 1)]) := upd_same
      have sl2 : SqL K (upd H a (.lst ([V.int i0, V.int i1, V.int i2].set 2 (V.int (i2 + 1))))) a [.int i0, .int i1, .int (i2 + 1)] := .inl (.inl hd2)
      refine ⟨_, rfl, a, _, _, _, rfl, rfl, sl2, atI_nat (j := 1) rfl, _, rfl, a, _, _, _, rfl, rfl, sl2, atI_nat (j := 2) rfl, 1220703125, i2 + 1, rfl, rfl, .inl ⟨by decide, by decide⟩, i1, _, rfl, rfl, .inl ⟨_, rfl, _, 36028797018963913, rfl, rfl, (show (0 : Int) < 36028797018963913 by decide), ?_⟩⟩
      dsimp only
      have o0 := Int.emod_nonneg (i1 + 1220703125 * (i2 + 1)) (show (36028797018963913 : Int) ≠ 0 by decide)
      have o1 := Int.emod_lt_of_pos (i1 + 1220703125 * (i2 + 1)) (show (0 : Int) < 36028797018963913 by decide)
      generalize (i1 + 1220703125 * (i2 + 1)) % 36028797018963913 = one at o0 o1 ⊢
      refine ⟨_, rfl, _, rfl, one, one, rfl, rfl, .inl ⟨by omega, by omega⟩, .inl ⟨_, rfl, _, 18014398509481951, rfl, rfl, (show (0 : Int) < 18014398509481951 by decide), _, rfl, _, one, rfl, rfl, .inr ⟨by omega, by omega⟩, _, rfl, a, _, _, _, rfl, rfl, sl2, atI_nat (j := 2) rfl, 271828183, i2 + 1, rfl, rfl, .inl ⟨by decide, by decide⟩, _, _, rfl, rfl, ?_⟩⟩
      dsimp only
      have x0 := Int.emod_nonneg (one * one) (show (18014398509481951 : Int) ≠ 0 by decide)
      have x1 := Int.emod_lt_of_pos (one * one) (show (0 : Int) < 18014398509481951 by decide)
      generalize one * one % 18014398509481951 = x at x0 x1 ⊢
      have y0 : 0 ≤ x * one := Int.mul_nonneg x0 o0
      have y1 : x * one ≤ 18014398509481951 * 36028797018963913 := Int.mul_le_mul (by omega) (by omega) o0 (by decide)
      generalize x * one = y at y0 y1 ⊢
      have hn' : (i2 + 1 : Int) ≤ 1000001 := by
        unfold cap at hn
        omega
      have t1 : (y + 271828183 * (i2 + 1)).natAbs < 2 ^ 120 := by omega
      generalize y + 271828183 * (i2 + 1) = two at t1 ⊢
      refine ⟨_, rfl, _, rfl, two, two, rfl, rfl, wide_mul t1 t1 (by decide) (by decide) (by decide), _, rfl, a, _, _, _, rfl, rfl, sl2, atI_nat (j := 1) rfl, _, i1, rfl, rfl, .inl ⟨_, rfl, _, 1125899906842597, rfl, rfl, (show (0 : Int) < 1125899906842597 by decide), _, 4096, rfl, rfl, ⟨by decide, by decide⟩, .inl ⟨_, rfl, _, rfl, _, m, rfl, rfl, m0, ?_⟩⟩⟩
      exact q _ _ But.upd ⟨i0, i1, i2 + 1, hd2, h0, h1, h2, h3, by omega, by omega⟩ (Int.emod_nonneg _ (by omega)) (Int.emod_lt_of_pos _ m0)
/-- an item of a list at b -/
def spPick (K : PySem.W.Frag) : Sp := fun vs H Q _ => ∃ (a b : Addr) (n : Nat) (xs : List V), vs = [.ref a, .ref b] ∧ Dice H a n ∧ n < cap ∧ SqL K H b xs ∧ b ≠ a ∧ 0 < xs.length ∧ xs.length < 1000000 ∧ ∀ (i : Nat) (v : V) H', But a H H' → Dice H' a (n + 1) → xs[i]? = some v → Q v H'
theorem But.sq {a b : Addr} {H H' : Hp} {xs : List V} (x : But a H H') (h : SqL K H b xs) (n : b ≠ a) : SqL K H' b xs := by
  rcases h with (h | ⟨o, h⟩) | h
  · exact .inl (.inl (x _ _ h n))
  · exact .inl (.inr ⟨o, x _ _ h n⟩)
  · exact .inr h
theorem ok_pick (T : Tx K mg) : FnOk P w K mg base CX0 2 T.a_law_pick T.d_law_pick ["dice", "items"] (spPick K) := by
  have nd := sc__law_pick.nd
  have G := ok_roll (P := P) (w := w) (base := base) T
  refine T.f_law_pick.ok sc__law_pick (fun vs H Q E h => ?_) (fun cdv A outer s H vs Q E hr h => ?_)
  · obtain ⟨a, b, n, xs, rfl, _⟩ := h
    rfl
  · obtain ⟨a, b, n, xs, rfl, hd, hn, hb, ne, l0, l1, q⟩ := h
    refine ⟨_, (pss_one (ps_ret (pe_ix ix_list (pv 1) (pe_call G (hr.mono (by decide)) (by rfl) T.g_law_roll T.f_law_roll.kp T.n_law_roll .nil pass0 (pa_cons (pv 0) (pa_cons (pe_callB call_len_seq (by rfl) T.b_len (by decide +kernel) (pa_cons (pv 1) pa_nil)) pa_nil))) (fun _ _ => rfl)))), ?_⟩
    refine ⟨_, rfl, _, rfl, _, rfl, b, xs, rfl, .inl hb, a, n, _, rfl, hd, hn, by omega, by omega, fun r H' bt hd' r0 r1 => ?_⟩
    have lt : r.toNat < xs.length := by omega
    have e : xs[r.toNat]? = some xs[r.toNat] := List.getElem?_eq_getElem lt
    refine ⟨b, xs, r, _, rfl, rfl, bt.sq hb ne, ?_, q _ _ _ bt hd' e⟩
    exact at_of (by omega) e
end
end K13
/-! Compared with an empty list, an empty tuple. -/
namespace Kx
open PySem PySem.Spec PyProof.Rows L2
section
variable {X : Cx}
def rNilL (K : PySem.W.Frag) (g : Bool → Bool) : R2 := fun x y H Q => ∃ a b xs, x = .ref a ∧ y = .ref b ∧ SqL K H a xs ∧ SqL K H b [] ∧ Q (.bl (g xs.isEmpty)) H
def rNilT (K : PySem.W.Frag) (g : Bool → Bool) : R2 := fun x y H Q => ∃ a b xs, x = .ref a ∧ y = .ref b ∧ SqT K H a xs ∧ SqT K H b [] ∧ Q (.bl (g xs.isEmpty)) H
theorem op_neNil (hu : X.A.units + 64 < cLine) : OpR X (compareOp .NotEq) (rNilL X.K fun b => !b) := by
  intro pins s σ H x y v u Q I rx ry h
  obtain ⟨a, b, xs, rfl, rfl, ha, hb, q⟩ := h
  cases xs with
  | nil => exact op_neD hu pins s σ H _ _ v u Q I rx ry ⟨.list [], .list [], .lst ha .nil, .lst hb .nil, rfl, rfl, by simpa [PyData.eqv, PyData.eqvAll] using q⟩
  | cons z zs =>
    cases rx
    cases ry
    obtain ⟨i1, r1, p1, _⟩ := I.list ha
    obtain ⟨i2, r2, p2, _⟩ := I.list hb
    cases r2
    have ne : (i1.toArray.size != (#[] : Array Value).size) = true := by
      cases r1
      simp
    exact SeqAt.RcNeAt.lists_lengths p1.isList p2.isList ne (by omega) _ _ _ _ ⟨.bl _, H, I, rfl, q⟩
theorem op_eqNil (hu : X.A.units + 64 < cLine) : OpR X (compareOp .Eq) (rNilL X.K fun b => b) := by
  intro pins s σ H x y v u Q I rx ry h
  obtain ⟨a, b, xs, rfl, rfl, ha, hb, q⟩ := h
  cases xs with
  | nil => exact op_eqD hu pins s σ H _ _ v u Q I rx ry ⟨.list [], .list [], .lst ha .nil, .lst hb .nil, rfl, rfl, by simpa [PyData.eqv, PyData.eqvAll] using q⟩
  | cons z zs =>
    cases rx
    cases ry
    obtain ⟨i1, r1, p1, _⟩ := I.list ha
    obtain ⟨i2, r2, p2, _⟩ := I.list hb
    cases r2
    have ne : (i1.toArray.size != (#[] : Array Value).size) = true := by
      cases r1
      simp
    exact SeqAt.RcAt.lists_lengths p1.isList p2.isList ne (by omega) _ _ _ _ ⟨.bl _, H, I, rfl, q⟩
end
end Kx
/-! Items mixed. -/
namespace K13
open PySem PySem.Spec PyProof.Rows L2 Kx
theorem erase_perm {α : Type} : ∀ {l : List α} {k : Nat} {y : α}, l[k]? = some y → (y :: l.eraseIdx k).Perm l
  | [], _, _, h => by simp at h
  | x :: l, 0, y, h => by
    simp at h
    subst h
    exact List.Perm.refl _
  | x :: l, k + 1, y, h => by
    have ih := erase_perm (l := l) (k := k) (y := y) (by simpa using h)
    rw [List.eraseIdx_cons_succ]
    exact (List.Perm.swap _ _ _).trans (ih.cons x)
theorem Dice.same {H H' : Hp} {a : Addr} {n : Nat} (d : Dice H a n) (e : H' a = H a) : Dice H' a n := by
  obtain ⟨i0, i1, i2, h, r⟩ := d
  exact ⟨i0, i1, i2, by rw [e, h], r⟩
section
variable {P : Program} {w : World} {K : PySem.W.Frag} {mg : Str → Option Value} {base : Heap}
/-- items in another order, a new list -/
def spMixed (K : PySem.W.Frag) : Sp := fun vs H Q _ => ∃ (a b : Addr) (n : Nat) (xs : List V), vs = [.ref a, .ref b] ∧ Dice H a n ∧ n + xs.length < cap ∧ SqL K H b xs ∧ b ≠ a ∧ xs.length < 1000 ∧
  ∀ (ys : List V) (p : Addr) H', But a H H' → Dice H' a (n + xs.length) → ys.Perm xs → H p = none → p ≠ a → H' p = some (.lst ys) → Q (.ref p) H'
theorem ok_mixed (T : Tx K mg) : FnOk P w K mg base CX0 2 T.a_law_mixed T.d_law_mixed ["dice", "items"] (spMixed K) := by
  have nd := sc__law_mixed.nd
  have G := ok_roll (P := P) (w := w) (base := base) T
  refine T.f_law_mixed.ok sc__law_mixed (fun vs H Q E h => ?_) (fun cdv A outer s H vs Q E hr h => ?_)
  · obtain ⟨a, b, n, xs, rfl, _⟩ := h
    rfl
  · obtain ⟨a, b, n, xs, rfl, hd, hn, hb, ne, l1, q⟩ := h
    refine ⟨_, (pss_cons (ps_par (i := 2) (j := 3) (by rfl) nd rfl rfl (by decide) rfl rfl (pa_cons (pe_callTy call_list_of (by rfl) T.b_list (by decide +kernel) (pa_cons (pv 1) pa_nil)) (pa_cons (pe_lst pa_nil) pa_nil)) (by rfl))
      (pss_cons (ps_while PassesOwn.never (pt_cmpR (op_neNil hr.units) (pv 2) (pe_lst pa_nil) (nomark _)) (pss_one (ps_expr (pe_bm PySem.F.plainAttrs_list PySem.F.slot_list_append PySem.F.type_list_append mt_append (pv 3) (pa_cons (pe_bm PySem.F.plainAttrs_list PySem.F.slot_list_pop PySem.F.type_list_pop mt_popAt (pv 2) (pa_cons (pe_call G (hr.mono (by decide)) (by rfl) T.g_law_roll T.f_law_roll.kp T.n_law_roll .nil pass0 (pa_cons (pv 0) (pa_cons (pe_callB call_len_seq (by rfl) T.b_len (by decide +kernel) (pa_cons (pv 2) pa_nil)) pa_nil))) pa_nil)) pa_nil)))))
      (pss_one (ps_ret (pv 3))))), ?_⟩
    have na : ∀ {p : Addr}, H p = none → p ≠ a := fun h e => by
      subst e
      obtain ⟨i0, i1, i2, z, _⟩ := hd
      rw [z] at h
      cases h
    refine ⟨_, rfl, b, xs, rfl, .inl hb, fun l nl => ⟨Nat.zero_le _, fun f nf => ?_⟩⟩
    have nl' : H l = none := nl
    have nfl : f ≠ l := fun e => by
      subst e
      rw [upd_same] at nf
      cases nf
    have nf' : H f = none := by
      rw [← nf, upd_ne nfl]
    refine ⟨_, _, rfl, ?_⟩
    -- the loop: what is left at l, what is found at f
    refine ⟨fun m σ H2 => σ = [some (.ref a), some (.ref b), some (.ref l), some (.ref f)] ∧ ∃ ls fs : List V, m = ls.length ∧ H2 l = some (.lst ls) ∧ H2 f = some (.lst fs) ∧ (fs ++ ls).Perm xs ∧ But a H H2 ∧ Dice H2 a (n + fs.length),
      ⟨xs.length, rfl, xs, [], rfl, ?_, upd_same, List.Perm.refl _, ?_, ?_⟩, ?_⟩
    · rw [upd_ne nfl.symm, upd_same]
    · exact But.of ((same_new nl').trans (same_new nf))
    · exact (hd.up ((same_new nl').trans (same_new nf))).le (by omega)
    rintro m σ H2 ⟨rfl, ls, fs, rfl, el, ef, pm, bt, dd⟩
    have len := pm.length_eq
    rw [List.length_append] at len
    refine ⟨_, rfl, Nat.zero_le _, fun e ne' => ?_⟩
    have s3 : Same H2 (upd H2 e (.lst [])) := same_new ne'
    refine ⟨l, e, ls, rfl, rfl, .inl (.inl (s3 _ _ el)), .inl (.inl upd_same), _, rfl, ?_⟩
    cases ls with
    | nil =>
      -- the end
      refine iteF ⟨_, rfl, q fs f _ (bt.trans (But.of s3)) ((dd.up s3).le ?_) ?_ nf' (na nf') (s3 _ _ ef)⟩
      · simp at len
        omega
      · simpa using pm
    | cons y0 ys0 =>
      refine iteT ⟨fun σ' H' => ∃ m', m' < (y0 :: ys0).length ∧ _, fun _ _ h => h, ?_⟩
      have sl : SqL K (upd H2 e (.lst [])) l (y0 :: ys0) := .inl (.inl (s3 _ _ el))
      rw [List.length_cons] at len
      refine ⟨_, rfl, .inl ⟨rfl, fs, .inl (.inl (s3 _ _ ef))⟩, _, rfl, .inl ⟨rfl, _, sl⟩, _, rfl, _, rfl, l, _, rfl, .inl sl, a, n + fs.length, _, rfl, dd.up s3, by omega, by rw [List.length_cons]; omega, by rw [List.length_cons]; omega, fun r H4 b4 d4 r0 r1 => ?_⟩
      have nla : l ≠ a := na nl'
      have nfa : f ≠ a := na nf'
      have el4 := b4 _ _ (s3 _ _ el) nla
      have ef4 := b4 _ _ (s3 _ _ ef) nfa
      have lt : r.toNat < (y0 :: ys0).length := by omega
      have ey : (y0 :: ys0)[r.toNat]? = some (y0 :: ys0)[r.toNat] := List.getElem?_eq_getElem lt
      generalize (y0 :: ys0)[r.toNat] = y at ey
      have bound : (y0 :: ys0).length < 1000 := by
        rw [List.length_cons]
        omega
      refine ⟨l, _, r, r.toNat, y, rfl, rfl, el4, by omega, by omega, PySem.seqIndex_of r0 r1, ey, ?_⟩
      have ef5 : (upd H4 l (.lst ((y0 :: ys0).eraseIdx r.toNat))) f = some (.lst fs) := by
        rw [upd_ne nfl]
        exact ef4
      refine ⟨f, fs, y, rfl, rfl, ef5, small1000 (by omega), ?_⟩
      have lne : ((y0 :: ys0).eraseIdx r.toNat).length + 1 = (y0 :: ys0).length := by
        rw [List.length_eraseIdx_of_lt lt, Nat.sub_add_cancel (by simp)]
      refine ⟨_, by omega, rfl, (y0 :: ys0).eraseIdx r.toNat, fs ++ [y], rfl, ?_, upd_same, ?_, ?_, ?_⟩
      · rw [upd_ne nfl.symm, upd_same]
      · refine List.Perm.trans ?_ pm
        rw [List.append_assoc]
        exact (erase_perm ey).append_left fs
      · intro c o hc hne
        rw [upd_ne (ne_of_none hc nf'), upd_ne (ne_of_none hc nl')]
        exact b4 _ _ (s3 _ _ (bt c o hc hne)) hne
      · rw [List.length_append, List.length_singleton, ← Nat.add_assoc]
        exact d4.same (by rw [upd_ne nfa.symm, upd_ne nla.symm])
end
end K13
/-! Names and forms. -/
namespace K13
open PySem PySem.Spec PyProof.Rows L2 Kx
def letter (c : Nat) : Bool := decide (97 ≤ c) && decide (c ≤ 122)
def isNm (x : Str) : Bool := decide (1 ≤ x.length) && decide (x.length ≤ 8) && x.cps.all letter
theorem ascii_table : ((List.range 128).all fun c => (letter c == (Unicode.isAlpha c && !(Unicode.isUpper c || Unicode.isTitle c))) && (!letter c || Unicode.isLower c)) = true := by decide +kernel
theorem ascii_at {c : Nat} (h : c < 128) : letter c = (Unicode.isAlpha c && !(Unicode.isUpper c || Unicode.isTitle c)) ∧ (letter c = true → Unicode.isLower c = true) := by
  have z := List.all_eq_true.mp ascii_table c (List.mem_range.mpr h)
  rw [Bool.and_eq_true, beq_iff_eq] at z
  refine ⟨z.1, fun l => ?_⟩
  have y := z.2
  rw [l] at y
  simpa using y
theorem letter_ascii {c : Nat} (h : letter c = true) : c < 128 := by
  unfold letter at h
  simp at h
  omega
theorem name_txt (x : Str) : (Txt.isascii x && (Txt.isalpha x && Txt.islower x)) = (decide (1 ≤ x.length) && x.cps.all letter) := by
  rw [Bool.eq_iff_iff]
  simp only [Bool.and_eq_true, Txt.isascii, Txt.isalpha, Txt.islower, Array.all_eq_true, Array.any_eq_true, Bool.not_eq_true', decide_eq_true_eq]
  constructor
  · rintro ⟨h1, ⟨h2, h3⟩, h4, h5⟩
    refine ⟨h2, fun i hi => ?_⟩
    rw [(ascii_at (by simpa using h1 i hi)).1, h3 i hi, Bool.true_and, Bool.not_eq_true']
    exact (by
      have z : ¬ (x.cps.any fun c => Unicode.isUpper c || Unicode.isTitle c) = true := by rw [h5]; exact Bool.false_ne_true
      rw [Array.any_eq_true] at z
      cases e : (Unicode.isUpper x.cps[i] || Unicode.isTitle x.cps[i]) with
      | false => rfl
      | true => exact absurd ⟨i, hi, e⟩ z)
  · rintro ⟨h1, h2⟩
    have a : ∀ (i : Nat) (hi : i < x.cps.size), x.cps[i] < 128 := fun i hi => letter_ascii (h2 i hi)
    have b : ∀ (i : Nat) (hi : i < x.cps.size), Unicode.isAlpha x.cps[i] = true ∧ (Unicode.isUpper x.cps[i] || Unicode.isTitle x.cps[i]) = false := fun i hi => by
      have z := h2 i hi
      rw [(ascii_at (a i hi)).1] at z
      simpa using z
    refine ⟨fun i hi => by simpa using a i hi, ⟨h1, fun i hi => (b i hi).1⟩, ⟨0, h1, (ascii_at (a 0 h1)).2 (h2 0 h1)⟩, ?_⟩
    cases e : (x.cps.any fun c => Unicode.isUpper c || Unicode.isTitle c) with
    | false => rfl
    | true =>
      obtain ⟨i, hi, z⟩ := Array.any_eq_true.mp e
      rw [(b i hi).2] at z
      cases z
def nameD : PyData → Bool
  | .str x => isNm x
  | _ => false
/-- a tuple of a name and at most three others -/
def formD : PyData → Bool
  | .tuple (d :: ds) => decide (ds.length ≤ 3) && nameD d
  | _ => false
theorem kit_str : ∀ d : PyData, kitB (tyD d) "str" = some (match d with | .str _ => true | _ => false)
  | .none => (by decide +kernel : kitB "NoneType" "str" = some false)
  | .bool _ => (by decide +kernel : kitB "bool" "str" = some false)
  | .int _ => (by decide +kernel : kitB "int" "str" = some false)
  | .str _ => (by decide +kernel : kitB "str" "str" = some true)
  | .list _ => (by decide +kernel : kitB "list" "str" = some false)
  | .tuple _ => (by decide +kernel : kitB "tuple" "str" = some false)
  | .dict _ => (by decide +kernel : kitB "dict" "str" = some false)
theorem kit_tuple : ∀ d : PyData, kitB (tyD d) "tuple" = some (match d with | .tuple _ => true | _ => false)
  | .none => (by decide +kernel : kitB "NoneType" "tuple" = some false)
  | .bool _ => (by decide +kernel : kitB "bool" "tuple" = some false)
  | .int _ => (by decide +kernel : kitB "int" "tuple" = some false)
  | .str _ => (by decide +kernel : kitB "str" "tuple" = some false)
  | .list _ => (by decide +kernel : kitB "list" "tuple" = some false)
  | .tuple _ => (by decide +kernel : kitB "tuple" "tuple" = some true)
  | .dict _ => (by decide +kernel : kitB "dict" "tuple" = some false)
section
variable {P : Program} {w : World} {K : PySem.W.Frag} {mg : Str → Option Value} {base : Heap}
def spNm (K : PySem.W.Frag) : Sp := fun vs H Q _ => ∃ (x : V) (d : PyData), vs = [x] ∧ Dx K H x d ∧ (∀ y, d = .str y → y.length ≤ sizeLine) ∧ Q (.bl (nameD d)) H
theorem ok_name (T : Tx K mg) : FnOk P w K mg base CX0 1 T.ais_name T.dis_name ["value"] (spNm K) := by
  have nd := sc_is_name.nd
  obtain ⟨tk, hL⟩ := T.c_LONGEST_NAME
  refine T.fis_name.ok sc_is_name (fun vs H Q E h => ?_) (fun cdv A outer s H vs Q E hr h => ?_)
  · obtain ⟨x, d, rfl, _⟩ := h
    rfl
  · obtain ⟨x, d, rfl, hx, hz, q⟩ := h
    refine ⟨_, (pss_cons (ps_if (PW.pt (pw_or (pt_not (pt_val (pe_callB call_isi (by rfl) T.b_isinstance (by decide +kernel) (pa_cons (pv 0) (pa_cons (pe_bltn (v := .ty "str") (by rfl) T.b_str (by decide +kernel) rfl) pa_nil))))) (pw_or1 (pt_cmpR op_gt (pe_callB call_len_str (by rfl) T.b_len (by decide +kernel) (pa_cons (pv 0) pa_nil)) (pe_glob (v := .int 8) (by rfl) hL ⟨_, rfl⟩) (nomark _))))) (pss_one (ps_ret pe_bl)) pss_nil)
      (pss_one (ps_ret (pe_and (pe_bm0 PySem.F.plainAttrs_str PySem.F.slot_str_isascii PySem.F.type_str_isascii mt_isascii (pv 0)) (pe_and (pe_bm0 PySem.F.plainAttrs_str PySem.F.slot_str_isalpha PySem.F.type_str_isalpha mt_isalpha (pv 0)) (pe_one (pe_bm0 PySem.F.plainAttrs_str PySem.F.slot_str_islower PySem.F.type_str_islower mt_islower (pv 0)))))))), ?_⟩
    refine ⟨x, rfl, x, .ty "str", _, _, _, rfl, .ty _, hx.ty, kit_ty (kit_str d), _, rfl, ?_⟩
    cases hx with
    | str z =>
      refine iteF ⟨_, rfl, z, rfl, hz z rfl, _, _, rfl, rfl, _, rfl, ite2 (fun h8 => ?_) (fun h8 => ?_)⟩
      · -- too long
        have h9 := of_decide_eq_true h8
        have e : nameD (.str z) = false := by
          simp [nameD, isNm]
          omega
        rw [e] at q
        exact q
      · have h9 : z.length ≤ 8 := by
          simp at h8
          omega
        have e : nameD (.str z) = (Txt.isascii z && (Txt.isalpha z && Txt.islower z)) := by
          rw [name_txt]
          simp [nameD, isNm, h9]
        rw [e] at q
        refine ⟨_, rfl, rfl, z, rfl, rfl, trivial, _, rfl, ?_⟩
        cases e1 : Txt.isascii z with
        | false =>
          rw [e1] at q
          exact iteF q
        | true =>
          rw [e1, Bool.true_and] at q
          refine iteT ⟨_, rfl, rfl, z, rfl, rfl, trivial, _, rfl, ?_⟩
          cases e2 : Txt.isalpha z with
          | false =>
            rw [e2] at q
            exact iteF q
          | true =>
            rw [e2, Bool.true_and] at q
            exact iteT ⟨_, rfl, rfl, z, rfl, rfl, trivial, q⟩
    | non => exact iteT (iteT q)
    | bl b => exact iteT (iteT q)
    | int i => exact iteT (iteT q)
    | lst _ _ => exact iteT (iteT q)
    | tup _ _ => exact iteT (iteT q)
    | dic _ _ => exact iteT (iteT q)
/-- a value's form: a tuple of a name and at most three others -/
def spForm (K : PySem.W.Frag) : Sp := fun vs H Q _ => ∃ (x : V) (d : PyData), vs = [x] ∧ Dx K H x d ∧ (∀ ds, d = .tuple ds → ∀ y, .str y ∈ ds → y.length ≤ sizeLine) ∧ Q (.bl (formD d)) H
theorem ok_form (T : Tx K mg) : FnOk P w K mg base CX0 2 T.ahas_form T.dhas_form ["value"] (spForm K) := by
  have nd := sc_has_form.nd
  obtain ⟨tk, hM⟩ := T.c_MAX_PLACES
  have G := ok_name (P := P) (w := w) (base := base) T
  refine T.fhas_form.ok sc_has_form (fun vs H Q E h => ?_) (fun cdv A outer s H vs Q E hr h => ?_)
  · obtain ⟨x, d, rfl, _⟩ := h
    rfl
  · obtain ⟨x, d, rfl, hx, hz, q⟩ := h
    refine ⟨_, (pss_one (ps_ret (pe_and (pe_callB call_isi (by rfl) T.b_isinstance (by decide +kernel) (pa_cons (pv 0) (pa_cons (pe_bltn (v := .ty "tuple") (by rfl) T.b_tuple (by decide +kernel) rfl) pa_nil))) (pe_and (pe_chain op_le op_le pe_int (pe_callB call_len_seq (by rfl) T.b_len (by decide +kernel) (pa_cons (pv 0) pa_nil)) (pe_op op_add (pe_glob (v := .int 3) (by rfl) hM ⟨_, rfl⟩) pe_int)) (pe_one (pe_call G (hr.mono (by decide)) (by rfl) T.gis_name T.fis_name.kp T.nis_name .nil pass0 (pa_cons (pe_ix ix_tup (pv 0) pe_int (fun _ _ => rfl)) pa_nil))))))), ?_⟩
    refine ⟨x, rfl, x, .ty "tuple", _, _, _, rfl, .ty _, hx.ty, kit_ty (kit_tuple d), _, rfl, ?_⟩
    cases hx with
    | tup ha hs =>
      rename_i a xs ds
      have len := hs.length
      refine iteT ⟨_, rfl, a, xs, rfl, .inr (SqT.of ha), 1, _, rfl, rfl, _, rfl, ite2 (fun h1 => ?_) (fun h1 => ?_)⟩
      · have l1 : 0 < xs.length := by
          have := of_decide_eq_true h1
          omega
        refine ⟨3, 1, rfl, rfl, _, _, rfl, rfl, _, rfl, ite2 (fun h4 => ?_) (fun h4 => ?_)⟩
        · have l4 : xs.length ≤ 4 := by
            have := of_decide_eq_true h4
            omega
          cases hs with
          | nil => simp at l1
          | cons h0 ht =>
            rename_i v vs d ds
            refine ⟨_, rfl, a, _, 0, v, rfl, rfl, SqT.of ha, atI_nat (j := 0) rfl, v, d, rfl, h0, fun y e => hz _ rfl y (by rw [e]; exact List.mem_cons_self), ?_⟩
            have e : formD (.tuple (d :: ds)) = nameD d := by
              have := ht.length
              simp [formD]
              rw [List.length_cons] at l4
              omega
            rw [e] at q
            exact q
        · have e : formD (.tuple ds) = false := by
            cases ds with
            | nil => rfl
            | cons d ds =>
              rw [List.length_cons] at len
              simp [formD]
              intro z
              simp at h4
              omega
          rw [e] at q
          exact q
      · have e : formD (.tuple ds) = false := by
          cases ds with
          | nil => rfl
          | cons d ds =>
            rw [List.length_cons] at len
            simp at h1
            omega
        rw [e] at q
        exact ⟨_, rfl, iteF q⟩
    | non => exact iteF q
    | bl b => exact iteF q
    | int i => exact iteF q
    | lst _ _ => exact iteF q
    | str _ => exact iteF q
    | dic _ _ => exact iteF q
end
end K13
/-! What is a term, over data. -/
namespace K13
open PySem PySem.Spec PyProof.Rows L2 Kx
mutual
/-- how many parts, all counted -/
def szD : PyData → Nat
  | .tuple ds => szAll ds + 1
  | _ => 1
def szAll : List PyData → Nat
  | [] => 0
  | d :: ds => szD d + szAll ds
end
mutual
/-- of the form, all through -/
def formedD : PyData → Bool
  | .tuple (d :: ds) => decide (ds.length ≤ 3) && nameD d && formedAll ds
  | _ => false
def formedAll : List PyData → Bool
  | [] => true
  | d :: ds => formedD d && formedAll ds
end
abbrev NK := Str × Nat
def headD : PyData → Str
  | .str x => x
  | _ => Str.empty
mutual
/-- the names in a formed datum, with their places -/
def rowsD : PyData → List NK
  | .tuple (d :: ds) => (headD d, ds.length) :: rowsAll ds
  | _ => []
def rowsAll : List PyData → List NK
  | [] => []
  | d :: ds => rowsD d ++ rowsAll ds
end
mutual
/-- texts are short -/
def shortD : PyData → Bool
  | .str x => decide (x.length ≤ 2000)
  | .tuple ds => shortAll ds
  | _ => true
def shortAll : List PyData → Bool
  | [] => true
  | d :: ds => shortD d && shortAll ds
end
def Func (l : List NK) : Prop := ∀ p, p ∈ l → ∀ q, q ∈ l → p.1 = q.1 → p.2 = q.2
instance (l : List NK) : Decidable (Func l) := decidable_of_iff (∀ p ∈ l, ∀ q ∈ l, p.1 = q.1 → p.2 = q.2) ⟨fun h => h, fun h => h⟩
def termD (d : PyData) : Bool := formedD d && decide (Func (rowsD d))
theorem szD_pos (d : PyData) : 0 < szD d := by
  cases d <;> simp [szD]
theorem szAll_append : ∀ (l m : List PyData), szAll (l ++ m) = szAll l + szAll m
  | [], m => by simp [szAll]
  | d :: l, m => by simp [szAll, szAll_append l m, Nat.add_assoc]
theorem formedAll_append : ∀ (l m : List PyData), formedAll (l ++ m) = (formedAll l && formedAll m)
  | [], m => by simp [formedAll]
  | d :: l, m => by simp [formedAll, formedAll_append l m, Bool.and_assoc]
theorem rowsAll_append : ∀ (l m : List PyData), rowsAll (l ++ m) = rowsAll l ++ rowsAll m
  | [], m => by simp [rowsAll]
  | d :: l, m => by simp [rowsAll, rowsAll_append l m]
theorem shortAll_append : ∀ (l m : List PyData), shortAll (l ++ m) = (shortAll l && shortAll m)
  | [], m => by simp [shortAll]
  | d :: l, m => by simp [shortAll, shortAll_append l m, Bool.and_assoc]
theorem length_le_sz : ∀ l : List PyData, l.length ≤ szAll l
  | [] => Nat.le_refl _
  | d :: l => by
    have := length_le_sz l
    have := szD_pos d
    simp only [List.length_cons, szAll]
    omega
theorem Func.congr {l m : List NK} (h : ∀ p, p ∈ l ↔ p ∈ m) : Func l ↔ Func m :=
  ⟨fun f p hp q hq => f p ((h p).mpr hp) q ((h q).mpr hq), fun f p hp q hq => f p ((h p).mp hp) q ((h q).mp hq)⟩
/-- what is still to be seen: the names so far, the data that wait -/
def Todo (m : List NK) (st : List PyData) : Prop := formedAll st = true ∧ Func (m ++ rowsAll st)
theorem todo_one (d : PyData) : Todo [] [d] ↔ termD d = true := by
  simp [Todo, termD, formedAll, rowsAll]
theorem todo_bad {m : List NK} {st : List PyData} {e : PyData} (h : formD e = false) : ¬ Todo m (st ++ [e]) := by
  rintro ⟨h1, _⟩
  rw [formedAll_append] at h1
  simp [formedAll] at h1
  cases e with
  | tuple ds =>
    cases ds with
    | nil => simp [formedD] at h1
    | cons d ds =>
      simp [formD] at h
      simp [formedD] at h1
      obtain ⟨_, ⟨a, b⟩, c⟩ := h1
      have := h a
      rw [b] at this
      cases this
  | _ => simp [formedD] at h1
theorem todo_clash {m : List NK} {st ds : List PyData} {x : Str} {k : Nat} (h : (x, k) ∈ m) (hk : k ≠ ds.length) : ¬ Todo m (st ++ [.tuple (.str x :: ds)]) := by
  rintro ⟨_, h2⟩
  refine hk (h2 (x, k) (List.mem_append_left _ h) (x, ds.length) (List.mem_append_right _ ?_) rfl)
  rw [rowsAll_append]
  simp [rowsAll, rowsD, headD]
theorem todo_step {m m' : List NK} {st ds : List PyData} {x : Str} (hf : formD (.tuple (.str x :: ds)) = true) (hm : ∀ p, p ∈ m' ↔ p ∈ m ∨ p = (x, ds.length)) :
    Todo m (st ++ [.tuple (.str x :: ds)]) ↔ Todo m' (st ++ ds) := by
  unfold Todo
  rw [formedAll_append, formedAll_append, rowsAll_append, rowsAll_append]
  have e1 : formedAll [.tuple (.str x :: ds)] = formedAll ds := by
    simp [formD] at hf
    simp [formedAll, formedD, hf.1, hf.2]
  rw [e1]
  refine and_congr Iff.rfl (Func.congr fun p => ?_)
  simp only [List.mem_append, rowsAll, rowsD, headD, hm, List.append_nil, List.mem_cons]
  constructor
  · rintro (h | h | h | h)
    · exact .inl (.inl h)
    · exact .inr (.inl h)
    · exact .inl (.inr h)
    · exact .inr (.inr h)
  · rintro ((h | h) | h | h)
    · exact .inl h
    · exact .inr (.inr (.inl h))
    · exact .inr (.inl h)
    · exact .inr (.inr (.inr h))
theorem todo_done {m : List NK} (h : Func m) : Todo m [] := ⟨rfl, by simpa [rowsAll] using h⟩
end K13
/-! joint_places, is_term, is_cell, check_term. -/
namespace K13
open PySem PySem.Spec PyProof.Rows L2 Kx
theorem snocDx {K : PySem.W.Frag} {H : Hp} : ∀ {vs : List V} {st : List PyData} {e : PyData}, DxAll K H vs (st ++ [e]) → ∃ us v, vs = us ++ [v] ∧ DxAll K H us st ∧ Dx K H v e
  | _, [], e, h => by
    cases h with
    | cons a t =>
      cases t
      exact ⟨[], _, rfl, .nil, a⟩
  | _, d :: st, e, h => by
    cases h with
    | cons a t =>
      obtain ⟨us, v, rfl, q, r⟩ := snocDx t
      exact ⟨_ :: us, v, rfl, .cons a q, r⟩
theorem snoc_or {α : Type} (l : List α) : l = [] ∨ ∃ st e, l = st ++ [e] := by
  rcases List.eq_nil_or_concat l with h | ⟨st, e, h⟩
  · exact .inl h
  · exact .inr ⟨st, e, by rw [h, List.concat_eq_append]⟩
/-- a dict of names and places -/
def dictOf (m : List NK) : List (Key × V) := m.map fun p => (Sum.inr p.1, V.int p.2)
theorem val_some {x : Str} {v : V} : ∀ {m : List NK}, valV (dictOf m) (Sum.inr x) = some v → ∃ k, (x, k) ∈ m ∧ v = .int k
  | [], h => by cases h
  | p :: m, h => by
    by_cases e : p.1 = x
    · rw [show dictOf (p :: m) = (Sum.inr p.1, V.int p.2) :: dictOf m from rfl, valV_pos (by rw [e])] at h
      exact ⟨p.2, by rw [← e]; exact List.mem_cons_self, (Option.some.inj h).symm⟩
    · rw [show dictOf (p :: m) = (Sum.inr p.1, V.int p.2) :: dictOf m from rfl, valV_neg (fun z => e (Sum.inr.inj z))] at h
      obtain ⟨k, a, b⟩ := val_some h
      exact ⟨k, List.mem_cons_of_mem _ a, b⟩
theorem val_none {x : Str} : ∀ {m : List NK}, valV (dictOf m) (Sum.inr x) = none → ∀ k, (x, k) ∉ m
  | [], _, k => fun z => (nomatch z)
  | p :: m, h, k => by
    by_cases e : p.1 = x
    · rw [show dictOf (p :: m) = (Sum.inr p.1, V.int p.2) :: dictOf m from rfl, valV_pos (by rw [e])] at h
      cases h
    · rw [show dictOf (p :: m) = (Sum.inr p.1, V.int p.2) :: dictOf m from rfl, valV_neg (fun z => e (Sum.inr.inj z))] at h
      intro z
      rcases List.mem_cons.mp z with z | z
      · exact e (by rw [← z])
      · exact val_none h k z
theorem short_mem : ∀ {ds : List PyData} {y : Str}, shortAll ds = true → PyData.str y ∈ ds → y.length ≤ 2000
  | [], _, _, h => (nomatch h)
  | d :: ds, y, hs, h => by
    rw [shortAll, Bool.and_eq_true] at hs
    rcases List.mem_cons.mp h with e | h
    · rw [← e] at hs
      simpa [shortD] using hs.1
    · exact short_mem hs.2 h
theorem cut_one {xs : List V} (h : xs ≠ []) : cutV xs (some 1) none = xs.drop 1 := by
  unfold cutV
  rw [show HT.sIx xs.length 0 (some 1) = min 1 xs.length from HT.sIx_nat xs.length 0 1, HT.sIx_none]
  cases xs with
  | nil => exact absurd rfl h
  | cons x r =>
    rw [show min 1 (x :: r).length = 1 by rw [List.length_cons]; omega]
    simp
theorem iteNT {c A B : Prop} [Decidable c] (hc : ¬ c) (h : A) : if (!decide c) = true then A else B := by
  rw [decide_eq_false hc]
  exact iteT h
section
variable {P : Program} {w : World} {K : PySem.W.Frag} {mg : Str → Option Value} {base : Heap}
def jointD (ds : List PyData) : Bool := formedAll ds && decide (Func (rowsAll ds))
theorem joint_todo (ds : List PyData) : Todo [] ds ↔ jointD ds = true := by
  unfold Todo jointD
  rw [List.nil_append, Bool.and_eq_true, decide_eq_true_eq]
theorem joint_one (d : PyData) : jointD [d] = termD d := by
  unfold jointD termD
  simp [formedAll, rowsAll]
def spJointL (K : PySem.W.Frag) : Sp := fun vs H Q _ => ∃ (a : Addr) (xs : List V) (ds : List PyData), vs = [.ref a] ∧ SqL K H a xs ∧ DxAll K H xs ds ∧ shortAll ds = true ∧ szAll ds ≤ 100000 ∧
  ∀ v H', Same H H' → (jointD ds = false → v = .non) → (jointD ds = true → ∃ p ms, v = .ref p ∧ H p = none ∧ H' p = some (.dK (dictOf ms)) ∧ (ms.map Prod.fst).Nodup ∧ ms.length ≤ szAll ds ∧ ∀ r, r ∈ ms ↔ r ∈ rowsAll ds) → Q v H'
def spJoint (K : PySem.W.Frag) : Sp := fun vs H Q _ => ∃ (a : Addr) (x : V) (d : PyData), vs = [.ref a] ∧ SqL K H a [x] ∧ Dx K H x d ∧ shortD d = true ∧ szD d ≤ 100000 ∧
  ∀ v H', Same H H' → (termD d = false → v = .non) → (termD d = true → ∃ p ms, v = .ref p ∧ H p = none ∧ H' p = some (.dK (dictOf ms)) ∧ (ms.map Prod.fst).Nodup ∧ ms.length ≤ szD d ∧ ∀ r, r ∈ ms ↔ r ∈ rowsD d) → Q v H'
theorem ok_jointL (T : Tx K mg) : FnOk P w K mg base CX0 3 T.ajoint_places T.djoint_places ["values"] (spJointL K) := by
  have nd := sc_joint_places.nd
  have G := ok_form (P := P) (w := w) (base := base) T
  refine T.fjoint_places.ok sc_joint_places (fun vs H Q E h => ?_) (fun cdv A outer s H vs Q E hr h => ?_)
  · obtain ⟨a, xs0, d, rfl, _⟩ := h
    rfl
  · obtain ⟨a, xs0, d, rfl, ha, hx, hs, hz, q⟩ := h
    have hu := hu_of hr
    refine ⟨_, (pss_cons (ps_set (i := 1) nd rfl (.inl rfl) pe_dnewK)
      (pss_cons (ps_set (i := 2) nd rfl (.inl rfl) (pe_callTy call_list_of (by rfl) T.b_list (by decide +kernel) (pa_cons (pv 0) pa_nil)))
      (pss_cons (ps_while PassesOwn.never (pt_truth (pv 2) (by intro _; rfl)) (pss_cons (ps_set (i := 3) nd rfl (.inl rfl) (pe_bm0 PySem.F.plainAttrs_list PySem.F.slot_list_pop PySem.F.type_list_pop mt_pop (pv 2)))
      (pss_cons (ps_if (pt_not (pt_val (pe_call G (hr.mono (by decide)) (by rfl) T.ghas_form T.fhas_form.kp T.nhas_form .nil pass0 (pa_cons (pv 3) pa_nil)))) (pss_one (ps_ret pe_non)) pss_nil)
      (pss_cons (ps_set (i := 4) nd rfl (.inl rfl) (pe_op op_sub (pe_callB call_len_seq (by rfl) T.b_len (by decide +kernel) (pa_cons (pv 3) pa_nil)) pe_int))
      (C8.pss_cut (ps_if (pt_cmpR op_ne (pe_dsetd (pv 1) (pe_ix ix_tup (pv 3) pe_int (fun _ _ => rfl)) (pv 4) ⟨by rfl, by rfl, by rfl, by rfl⟩) (pv 4) (nomark _)) (pss_one (ps_ret pe_non)) pss_nil)
      (pss_one (ps_expr (pe_bm PySem.F.plainAttrs_list PySem.F.slot_list_extend PySem.F.type_list_extend mt_extT (pv 2) (pa_cons (pe_slice sl_tupA (pv 3) (po_some pe_int) po_none) pa_nil)))))))))
      (pss_one (ps_ret (pv 1)))))), ?_⟩
    -- places = {}; waiting = list(values)
    intro pl npl
    have s1 : Same H (upd H pl (.dK [])) := same_new npl
    refine ⟨_, rfl, a, xs0, rfl, .inl (s1.seq ha), fun wl nwl => ?_⟩
    have nwp : wl ≠ pl := fun e => by
      subst e
      rw [upd_same] at nwl
      cases nwl
    have nwl' : H wl = none := by rw [← nwl, upd_ne nwp]
    have s2 : Same H (upd (upd H pl (.dK [])) wl (.lst xs0)) := s1.trans (same_new nwl)
    refine ⟨fun m σ H2 => (∃ y3 y4, σ = [some (.ref a), some (.ref pl), some (.ref wl), y3, y4]) ∧ ∃ (vs : List V) (st : List PyData) (ms : List NK), m = szAll st ∧ H2 wl = some (.lst vs) ∧ H2 pl = some (.dK (dictOf ms)) ∧ Same H H2 ∧ DxAll K H vs st ∧
        shortAll st = true ∧ ms.length + szAll st ≤ szAll d ∧ Func ms ∧ (jointD d = true ↔ Todo ms st) ∧ (ms.map Prod.fst).Nodup ∧ (∀ r, (r ∈ ms ∨ r ∈ rowsAll st) ↔ r ∈ rowsAll d),
      ⟨szAll d, ⟨none, none, rfl⟩, xs0, d, [], rfl, upd_same, ?_, s2, hx, hs, by simp, fun p hp => (nomatch hp), (joint_todo d).symm, List.nodup_nil, fun r => by simp⟩, ?_⟩
    · rw [upd_ne nwp.symm, upd_same]
      rfl
    rintro m σ H2 ⟨⟨y3, y4, rfl⟩, vs, st, ms, rfl, ew, ep, sm, dx, sh, bd, fn, iff, nds, mem0⟩
    refine ⟨_, rfl, _, .inl ⟨vs, .inl (.inl ew), rfl⟩, ?_⟩
    rcases snoc_or st with rfl | ⟨st, e, rfl⟩
    · -- nothing waits
      cases dx
      refine iteF ⟨_, rfl, q _ _ sm (fun z => ?_) fun _ => ⟨pl, ms, rfl, npl, ep, nds, by omega, fun r => by rw [← mem0 r]; simp [rowsAll]⟩⟩
      rw [iff.mpr (todo_done fn)] at z
      cases z
    obtain ⟨us, v, rfl, dx', hv⟩ := snocDx dx
    have ne : (!(us ++ [v]).isEmpty) = true := by cases us <;> rfl
    rw [ne]
    rw [shortAll_append, Bool.and_eq_true] at sh
    have she : shortD e = true := by simpa [shortAll] using sh.2
    refine iteT ⟨fun σ' H' => ∃ m', m' < szAll (st ++ [e]) ∧ _, fun _ _ h => h, ?_⟩
    -- part = waiting.pop()
    refine ⟨_, rfl, .inl ⟨rfl, _, .inl (.inl ew)⟩, wl, _, v, rfl, rfl, ew, by simp, ?_⟩
    rw [List.dropLast_concat]
    have sm3 : Same H (upd H2 wl (.lst us)) := fun c o hc => by
      rw [upd_ne (ne_of_none hc nwl')]
      exact sm c o hc
    -- if not has_form(part): return None
    refine ⟨_, rfl, v, e, rfl, hv.up sm3, fun ds he y hy => ?_, _, rfl, ?_⟩
    · subst he
      refine Nat.le_trans (short_mem (by simpa [shortD] using she) hy) (by decide)
    cases hf : formD e with
    | false =>
      refine iteT (q .non _ sm3 (fun _ => rfl) fun z => ?_)
      exact absurd (iff.mp z) (todo_bad hf)
    | true =>
      obtain ⟨x1, es, rfl⟩ : ∃ x1 es, e = .tuple (.str x1 :: es) := by
        cases e with
        | tuple ds =>
          cases ds with
          | nil => cases hf
          | cons d0 ds =>
            simp only [formD, Bool.and_eq_true] at hf
            cases d0 with
            | str z => exact ⟨z, ds, rfl⟩
            | _ => cases hf.2
        | _ => cases hf
      cases hv with
      | tup hb hxs =>
      rename_i b xs
      cases hxs with
      | cons h0 hw =>
      rename_i v0 ws
      cases h0
      have lw := hw.length
      have l3 : es.length ≤ 3 := by
        simp only [formD, Bool.and_eq_true, decide_eq_true_eq] at hf
        exact hf.1
      -- many = len(part) - 1
      refine iteF ⟨_, rfl, b, _, rfl, .inr (SqT.of (sm3 _ _ hb)), _, 1, rfl, rfl, ?_⟩
      have em : ((V.str x1 :: ws).length : Int) - 1 = (es.length : Int) := by
        rw [List.length_cons]
        omega
      dsimp only
      rw [em]
      have ep3 : (upd H2 wl (.lst us)) pl = some (.dK (dictOf ms)) := by rw [upd_ne nwp.symm]; exact ep
      rw [szAll_append] at bd
      have z1 : szAll [PyData.tuple (.str x1 :: es)] = szAll es + 2 := by simp [szAll, szD]; omega
      rw [z1] at bd
      have lm : (dictOf ms).length < sizeLine := by
        rw [dictOf, List.length_map]
        exact Nat.lt_of_le_of_lt (show ms.length ≤ 100000 by omega) (by decide)
      have f0 : ∀ k, (x1, k) ∈ ms → k = es.length → Func ms := fun _ _ _ => fn
      -- places.setdefault(part[0], many) != many
      refine ⟨fun σ' H' => σ' = [some (.ref a), some (.ref pl), some (.ref wl), some (.ref b), some (.int es.length)] ∧ H' wl = some (.lst us) ∧ Same H H' ∧ ∃ ms', H' pl = some (.dK (dictOf ms')) ∧ (∀ p, p ∈ ms' ↔ p ∈ ms ∨ p = (x1, es.length)) ∧ Func ms' ∧ ms'.length ≤ ms.length + 1 ∧ (ms'.map Prod.fst).Nodup, ?_, ?_⟩
      · refine ⟨_, rfl, pl, rfl, .inl ⟨_, .inl ep3⟩, _, rfl, b, _, 0, _, rfl, rfl, SqT.of (sm3 _ _ hb), atI_nat (j := 0) rfl, _, rfl, dictOf ms, Sum.inr x1, ep3, rfl, lm, fun y hy => ?_, fun hy => ?_⟩
        · -- the name is there
          obtain ⟨k, mem, rfl⟩ := val_some hy
          by_cases hk : k = es.length
          · subst hk
            refine ⟨_, rfl, rfl, _, rfl, iteNS rfl ⟨rfl, upd_same, sm3, ms, ep3, fun p => ⟨.inl, fun z => ?_⟩, fn, Nat.le_succ _, nds⟩⟩
            rcases z with z | z
            · exact z
            · rw [z]
              exact mem
          · refine ⟨_, rfl, rfl, _, rfl, iteNT (fun z => hk ?_) (q .non _ sm3 (fun _ => rfl) fun z => ?_)⟩
            · have := V.int.inj z
              omega
            · exact absurd (iff.mp z) (todo_clash mem hk)
        · -- a new name
          have nk := val_none hy
          have npl' : H pl = none := npl
          refine ⟨_, rfl, rfl, _, rfl, iteNS rfl ⟨rfl, ?_, fun c o hc => ?_, ms ++ [(x1, es.length)], ?_, fun p => ?_, ?_, ?_, ?_⟩⟩
          · rw [upd_ne nwp, upd_same]
          · rw [upd_ne (ne_of_none hc npl')]
            exact sm3 c o hc
          · rw [upd_same, putK_new _ hy]
            simp [dictOf]
          · simp
          · rintro ⟨p1, p2⟩ hp ⟨r1, r2⟩ hr' e
            have e' : p1 = r1 := e
            subst e'
            simp only [List.mem_append, List.mem_singleton, Prod.mk.injEq] at hp hr'
            rcases hp with hp | ⟨g1, g2⟩
            · rcases hr' with hr' | ⟨g3, g4⟩
              · exact fn _ hp _ hr' rfl
              · subst g3
                exact absurd hp (nk _)
            · rcases hr' with hr' | ⟨g3, g4⟩
              · subst g1
                exact absurd hr' (nk _)
              · rw [g2, g4]
          · simp
          · rw [List.map_append, List.nodup_append]
            refine ⟨nds, by simp, fun a ha b hb e => ?_⟩
            obtain ⟨⟨r1, r2⟩, hr2, rfl⟩ := List.mem_map.mp ha
            simp at hb
            subst hb
            subst e
            exact nk _ hr2
      rintro σ' H' ⟨rfl, ew', sm', ms', ep', mem', fn', len', nds'⟩
      -- waiting.extend(part[1:])
      refine ⟨_, rfl, .inl ⟨rfl, _, .inl (.inl ew')⟩, _, rfl, 1, rfl, b, _, rfl, SqT.of (sm' _ _ hb), fun z => ?_, fun _ c nc => ?_⟩
      · exfalso
        have := z.1
        rw [show HT.sIx (V.str x1 :: ws).length 0 (some 1) = min 1 (V.str x1 :: ws).length from HT.sIx_nat _ 0 1, List.length_cons] at this
        omega
      have nwc : wl ≠ c := fun e => by
        rw [← e, ew'] at nc
        cases nc
      have npc : pl ≠ c := fun e => by
        rw [← e, ep'] at nc
        cases nc
      have lus := dx'.length
      have lst := length_le_sz st
      refine ⟨wl, c, us, ws, rfl, rfl, by rw [upd_ne nwc]; exact ew', ?_, ?_, ?_⟩
      · rw [cut_one (by simp)]
        exact SqT.of upd_same
      · exact Nat.le_trans (show us.length + ws.length ≤ 100003 by omega) (by decide)
      · refine ⟨szAll (st ++ es), ?_, ⟨_, _, rfl⟩, us ++ ws, st ++ es, ms', rfl, upd_same, ?_, fun d o hd => ?_, DxAll.append dx' hw, ?_, ?_, fn', iff.trans (todo_step hf mem'), nds', fun r => ?_⟩
        · rw [szAll_append, szAll_append, z1]
          omega
        · rw [upd_ne nwp.symm, upd_ne npc]
          exact ep'
        · rw [upd_ne (ne_of_none hd nwl'), upd_ne]
          · exact sm' d o hd
          · rintro rfl
            rw [sm' _ _ hd] at nc
            cases nc
        · rw [shortAll_append, sh.1]
          have z : x1.length ≤ 2000 ∧ shortAll es = true := by simpa [shortD, shortAll] using she
          simpa using z.2
        · rw [szAll_append]
          omega
        · rw [← mem0 r, mem' r, rowsAll_append, rowsAll_append]
          simp only [List.mem_append, rowsAll, rowsD, headD, List.append_nil, List.mem_cons]
          constructor
          · rintro ((h | h) | h | h)
            · exact .inl h
            · exact .inr (.inr (.inl h))
            · exact .inr (.inl h)
            · exact .inr (.inr (.inr h))
          · rintro (h | h | h | h)
            · exact .inl (.inl h)
            · exact .inr (.inl h)
            · exact .inl (.inr h)
            · exact .inr (.inr h)
theorem ok_joint (T : Tx K mg) : FnOk P w K mg base CX0 3 T.ajoint_places T.djoint_places ["values"] (spJoint K) := (ok_jointL T).imp fun vs H Q E h => by
  obtain ⟨a, x, d, rfl, ha, hx, hs, hz, q⟩ := h
  have e1 : szAll [d] = szD d := by simp [szAll]
  have e2 : rowsAll [d] = rowsD d := by simp [rowsAll]
  refine ⟨a, [x], [d], rfl, ha, .cons hx .nil, by simp [shortAll, hs], by rw [e1]; exact hz, fun v H' s h1 h2 => q v H' s (fun z => h1 (by rw [joint_one]; exact z)) fun z => ?_⟩
  obtain ⟨p, ms, a1, a2, a3, a4, a5, a6⟩ := h2 (by rw [joint_one]; exact z)
  exact ⟨p, ms, a1, a2, a3, a4, by rw [← e1]; exact a5, fun r => by rw [← e2]; exact a6 r⟩
end
end K13
/-! is_term, is_cell, check_term, make_term, make_cells. -/
namespace Kx
open PySem PySem.Spec PyProof.Rows L2
section
variable {X : Cx} {CX : CXT} {k : Nat} {f : Addr} {sp : Sp} {E : XK} {x : Str} {e : Expr} {es : List Expr} {t : TA} {p pos : Pos}
/-- f(e, ..), f a def with a star -/
theorem pe_callR (F : L2.FnR X.prog X.w X.K X.mg X.base CX k f sp) (hr : Room k X.A) (hg : Gl X x) (hm : X.mg x = some (.ref f)) (hk : PySem.W.keepIn X.K (.ref f) = true) (hx : Passes CX X E) (ha : PA X (e :: es) t) (hd : (x == ("__debug__" : Str)) = false := by decide)
    (he : starEach (e :: es) X.env = (false, eval e X.env) :: starEach es X.env := by rfl) (hpl : (backTo pos (starEach es X.env)).any (·.1) = false := by rfl) :
    PE X (.Call (.Name x p) (e :: es) [] pos) (tCall sp [] E t) := by
  refine ⟨fun pins s σ H Q I h => wpAny_Call_Name_kw (ld_glob I hg hm ?_ hd)⟩
  refine PySem.W.callWith_K (h₀ := X.base) I.ok.mod.kin hk (thn (ha.run pos pins s σ H _ I h) ?_) he hpl
  rintro us s1 ⟨vs, H1, I1, r, q⟩
  rw [List.append_nil] at q
  exact ⟨I1.kIn, wpAny_call (run_fnR F hr hx I1 r q)⟩
theorem pe_callR0 (F : L2.FnR X.prog X.w X.K X.mg X.base CX k f sp) (hr : Room k X.A) (hg : Gl X x) (hm : X.mg x = some (.ref f)) (hk : PySem.W.keepIn X.K (.ref f) = true) (hx : Passes CX X E) (hd : (x == ("__debug__" : Str)) = false := by decide) :
    PE X (.Call (.Name x p) [] [] pos) (tCall sp [] E tNil) := by
  refine ⟨fun pins s σ H Q I h => wpAny_Call_Name_kw (ld_glob I hg hm ?_ hd)⟩
  exact PySem.W.callWith_K0 I.kIn hk (wpAny_call (run_fnR F hr hx I .nil h))
end
end Kx
namespace K13
open PySem PySem.Spec PyProof.Rows L2 Kx
def cellD : PyData → Bool
  | .tuple ds => termD (.tuple ds) && decide (ds.length = 1)
  | _ => false
theorem cellD_eq {d : PyData} (h : termD d = true) : ∃ ds, d = .tuple ds := by
  cases d with
  | tuple ds => exact ⟨ds, rfl⟩
  | _ => simp [termD, formedD] at h
section
variable {P : Program} {w : World} {K : PySem.W.Frag} {mg : Str → Option Value} {base : Heap}
/-- x stands for d, of a bounded size -/
def Dz (K : PySem.W.Frag) (H : Hp) (x : V) (d : PyData) : Prop := Dx K H x d ∧ shortD d = true ∧ szD d ≤ 100000
theorem Dz.up {H H' : Hp} {x : V} {d : PyData} (h : Dz K H x d) (e : Same H H') : Dz K H' x d := ⟨h.1.up e, h.2⟩
def spTerm (K : PySem.W.Frag) : Sp := fun vs H Q _ => ∃ (x : V) (d : PyData), vs = [x] ∧ Dz K H x d ∧ ∀ H', Same H H' → Q (.bl (termD d)) H'
theorem ok_term (T : Tx K mg) : FnOk P w K mg base CX0 4 T.ais_term T.dis_term ["value"] (spTerm K) := by
  have nd := sc_is_term.nd
  have G := ok_joint (P := P) (w := w) (base := base) T
  refine T.fis_term.ok sc_is_term (fun vs H Q E h => ?_) (fun cdv A outer s H vs Q E hr h => ?_)
  · obtain ⟨x, d, rfl, _⟩ := h
    rfl
  · obtain ⟨x, d, rfl, ⟨hx, hs, hz⟩, q⟩ := h
    refine ⟨_, (pss_one (ps_ret (pe_cmpR op_notN (pe_call G (hr.mono (by decide)) (by rfl) T.gjoint_places T.fjoint_places.kp T.njoint_places .nil pass0 (pa_cons (pe_lst (pa_cons (pv 0) pa_nil)) pa_nil)) pe_non (nomark _)))), ?_⟩
    refine ⟨_, rfl, (by show 1 ≤ sizeLine; decide), fun p np => ?_⟩
    refine ⟨p, x, d, rfl, .inl (.inl upd_same), hx.up (same_new np), hs, hz, fun v H' sm n1 n2 => ⟨rfl, ?_⟩⟩
    have fin := q H' ((same_new np).trans sm)
    cases e : termD d with
    | false =>
      rw [e] at fin
      rw [n1 e]
      exact fin
    | true =>
      rw [e] at fin
      obtain ⟨c, _, ec, _⟩ := n2 e
      rw [ec]
      exact fin
end
end K13
/-! Displays of data, all at once. -/
namespace Kx
open PySem PySem.Spec PyProof.Rows L2
/-- the heap without S -/
def OffS (S : List Addr) (H : Hp) : Hp := fun b => if b ∈ S then none else H b
def Olds (S : List Addr) (H : Hp) : Prop := ∀ b, b ∈ S → H b ≠ none
section
variable {S : List Addr} {H H' : Hp}
theorem OffS.of {b : Addr} {o : HO} (h : OffS S H b = some o) : b ∉ S ∧ H b = some o := by
  unfold OffS at h
  by_cases e : b ∈ S
  · rw [if_pos e] at h
    cases h
  · rw [if_neg e] at h
    exact ⟨e, h⟩
theorem OffS.out {b : Addr} {o : HO} (n : b ∉ S) (h : H b = some o) : OffS S H b = some o := by
  unfold OffS
  rw [if_neg n]
  exact h
theorem OffS.same (e : Same H H') : Same (OffS S H) (OffS S H') := fun b o h => by
  obtain ⟨n, h⟩ := OffS.of h
  exact OffS.out n (e b o h)
theorem OffS.all : Same (OffS S H) H := fun b o h => (OffS.of h).2
theorem Olds.up (h : Olds S H) (e : Same H H') : Olds S H' := fun b hb z => by
  have := h b hb
  cases k : H b with
  | none => exact this k
  | some o =>
    rw [e b o k] at z
    cases z
theorem Olds.new {p : Addr} (h : Olds S H) (e : H p = none) : p ∉ S := fun z => h p z e
theorem same_put {p : Addr} {o : HO} (h : H p = none) : Same H (upd H p o) := fun b x e => by
  rw [upd_ne (ne_of_none e h)]
  exact e
/-- te makes d anew -/
def Makes (K : PySem.W.Frag) (S : List Addr) (te : TE) (d : PyData) : Prop := ∀ (σ : L2.St) (H : Hp) (Q : VK), Olds S H → (∀ x H', Same H H' → Dx K (OffS S H') x d → Q x H') → te σ H Q
def MakesAll (K : PySem.W.Frag) (S : List Addr) (ta : TA) (ds : List PyData) : Prop := ∀ (σ : L2.St) (H : Hp) (Q : List V → Hp → Prop), Olds S H → (∀ xs H', Same H H' → DxAll K (OffS S H') xs ds → Q xs H') → ta σ H Q
variable {K : PySem.W.Frag} {te : TE} {ta : TA} {d : PyData} {ds : List PyData}
theorem mk_str (x : Str) : Makes K S (tC (.str x)) (.str x) := fun σ H Q _ q => q _ H (Same.refl H) (.str x)
theorem mk_int (i : Int) : Makes K S (tC (.int i)) (.int i) := fun σ H Q _ q => q _ H (Same.refl H) (.int i)
theorem mk_bl (b : Bool) : Makes K S (tC (.bl b)) (.bool b) := fun σ H Q _ q => q _ H (Same.refl H) (.bl b)
theorem mk_non : Makes K S (tC .non) .none := fun σ H Q _ q => q _ H (Same.refl H) .non
theorem mk_nil : MakesAll K S tNil [] := fun σ H Q _ q => q _ H (Same.refl H) .nil
theorem mk_cons (h1 : Makes K S te d) (h2 : MakesAll K S ta ds) : MakesAll K S (tCons te ta) (d :: ds) := fun σ H Q o q =>
  h1 σ H _ o fun x H1 s1 d1 => h2 σ H1 _ (o.up s1) fun xs H2 s2 d2 => q _ H2 (s1.trans s2) (.cons (d1.up (OffS.same s2)) d2)
theorem mk_tup (h : MakesAll K S ta ds) (few : ds.length ≤ sizeLine := by decide) : Makes K S (tTup ta) (.tuple ds) := fun σ H Q o q =>
  h σ H _ o fun xs H1 s1 d1 => ⟨by rw [d1.length]; exact few, fun p np => q _ _ (s1.trans (same_put np)) (.tup (OffS.out ((o.up s1).new np) upd_same) (d1.up (OffS.same (same_put np))))⟩
theorem mk_lst (h : MakesAll K S ta ds) (few : ds.length ≤ sizeLine := by decide) : Makes K S (tLst ta) (.list ds) := fun σ H Q o q =>
  h σ H _ o fun xs H1 s1 d1 => ⟨by rw [d1.length]; exact few, fun p np => q _ _ (s1.trans (same_put np)) (.lst (OffS.out ((o.up s1).new np) upd_same) (d1.up (OffS.same (same_put np))))⟩
theorem mk_dic0 : Makes K S tDNewK (.dict []) := fun σ H Q o q p np => q _ _ (same_put np) (.dic (OffS.out (o.new np) upd_same) .nil)
theorem mk_dic1 (k : Str) (i : Int) : Makes K S (tDisp [(tC (.str k), tC (.int i))]) (.dict [(.str k, .int i)]) := fun σ H Q o q p np => by
  refine ⟨upd_same, [(.inr k, .int i)], rfl, (by show 1 ≤ 15; decide), q _ _ (fun b u hb => ?_) (.dic (OffS.out (o.new np) upd_same) (KvD.int .nil))⟩
  have n := ne_of_none hb np
  rw [upd_ne n, upd_ne n]
  exact hb
/-- xs + ys of such lists -/
theorem mk_cat {tb : TE} {es : List PyData} (h1 : Makes K S te (.list ds)) (h2 : Makes K S tb (.list es)) (few : ds.length + es.length ≤ sizeLine := by decide) : Makes K S (tOp rCat te tb) (.list (ds ++ es)) := fun σ H Q o q =>
  h1 σ H _ o fun x H1 s1 d1 => h2 σ H1 _ (o.up s1) fun y H2 s2 d2 => by
    have d1 := d1.up (OffS.same s2)
    cases d1 with
    | lst ha hx =>
    cases d2 with
    | lst hb hy =>
    rename_i a xs b ys
    refine ⟨a, b, xs, ys, rfl, rfl, OffS.all _ _ ha, OffS.all _ _ hb, by rw [hx.length, hy.length]; exact few, fun p np => ?_⟩
    exact q _ _ (s1.trans (s2.trans (same_put np))) (.lst (OffS.out (((o.up s1).up s2).new np) upd_same) (DxAll.append (hx.up (OffS.same (same_put np))) (hy.up (OffS.same (same_put np)))))
/-- name = [..] of such data -/
theorem asg_mk {j : Nat} {rest : TS} {D : Ends} {σ : L2.St} (m : Makes K S te d) (o : Olds S H) (q : ∀ x H', Same H H' → Dx K (OffS S H') x d → rest D (σ.set j (some x)) H') : tSeq (tAsg te (gName j)) rest D σ H := m σ H _ o q
/-- name = name + [..] of such data -/
theorem cat_mk {j : Nat} {rest : TS} {D : Ends} {σ : L2.St} {i : Nat} {x : V} {es : List PyData} {tb : TE} (hx : σ[i]? = some (some x)) (d1 : Dx K (OffS S H) x (.list ds)) (m : Makes K S tb (.list es)) (few : ds.length + es.length ≤ sizeLine) (o : Olds S H)
    (q : ∀ x H', Same H H' → Dx K (OffS S H') x (.list (ds ++ es)) → rest D (σ.set j (some x)) H') : tSeq (tAsg (tOp rCat (tVar i) tb) (gName j)) rest D σ H :=
  ⟨x, hx, m σ H _ o fun y H2 s2 d2 => by
    have d1 := d1.up (OffS.same s2)
    cases d1 with
    | @lst a xs _ ha hx =>
    cases d2 with
    | @lst b ys _ hb hy =>
    refine ⟨a, b, xs, ys, rfl, rfl, OffS.all _ _ ha, OffS.all _ _ hb, by rw [hx.length, hy.length]; exact few, fun p np => ?_⟩
    exact q _ _ (s2.trans (same_put np)) (.lst (OffS.out ((o.up s2).new np) upd_same) (DxAll.append (hx.up (OffS.same (same_put np))) (hy.up (OffS.same (same_put np)))))⟩
end
end Kx
/-! A term of the turn. -/
namespace K13
open PySem PySem.Spec PyProof.Rows L2 Kx
/-- tuples stand -/
def Tups (H H' : Hp) : Prop := ∀ b xs, H b = some (.tup xs) → H' b = some (.tup xs)
theorem Tups.of {H H' : Hp} (x : Same H H') : Tups H H' := fun b xs h => x b _ h
theorem Tups.trans {H H1 H2 : Hp} (x : Tups H H1) (y : Tups H1 H2) : Tups H H2 := fun b xs h => y b xs (x b xs h)
theorem Tups.but {a : Addr} {n : Nat} {H H' : Hp} (x : But a H H') (d : Dice H a n) : Tups H H' := fun b xs h => by
  obtain ⟨_, _, _, z, _⟩ := d
  exact x b _ h (ne_of h z (fun e => nomatch e))
theorem Tups.lst {D : Addr} {H : Hp} {xs ys : List V} (h : H D = some (.lst xs)) : Tups H (upd H D (.lst ys)) := fun b zs e => by
  rw [upd_ne (ne_of e h (fun e => nomatch e))]
  exact e
mutual
/-- no list, no dict -/
def pureD : PyData → Bool
  | .list _ => false
  | .dict _ => false
  | .tuple ds => pureAll ds
  | _ => true
def pureAll : List PyData → Bool
  | [] => true
  | d :: ds => pureD d && pureAll ds
end
mutual
theorem Dx.ts {K : PySem.W.Frag} {H H' : Hp} (t : Tups H H') : ∀ (d : PyData) (x : V), pureD d = true → Dx K H x d → Dx K H' x d
  | .none, _, _, h => by cases h; exact .non
  | .bool b, _, _, h => by cases h; exact .bl b
  | .int i, _, _, h => by cases h; exact .int i
  | .str x, _, _, h => by cases h; exact .str x
  | .list ds, _, e, h => by cases e
  | .tuple ds, _, e, h => by cases h with | tup a b => exact .tup (t _ _ a) (DxAll.ts t ds _ (by simpa [pureD] using e) b)
  | .dict ds, _, e, h => by cases e
theorem DxAll.ts {K : PySem.W.Frag} {H H' : Hp} (t : Tups H H') : ∀ (ds : List PyData) (xs : List V), pureAll ds = true → DxAll K H xs ds → DxAll K H' xs ds
  | [], _, _, h => by cases h; exact .nil
  | d :: ds, _, e, h => by
    have e : pureD d = true ∧ pureAll ds = true := by simpa [pureAll] using e
    cases h with | cons a b => exact .cons (Dx.ts t d _ e.1 a) (DxAll.ts t ds _ e.2 b)
end
theorem pure_name {d : PyData} (h : nameD d = true) : pureD d = true := by
  cases d with
  | str x => rfl
  | _ => cases h
mutual
theorem pure_formed : ∀ (d : PyData), formedD d = true → pureD d = true
  | .none, h => rfl
  | .bool _, h => rfl
  | .int _, h => rfl
  | .str _, h => rfl
  | .list ds, h => by cases h
  | .dict ds, h => by cases h
  | .tuple [], h => rfl
  | .tuple (d :: ds), h => by
    simp only [formedD, Bool.and_eq_true] at h
    simp only [pureD, pureAll, Bool.and_eq_true]
    exact ⟨pure_name h.1.2, pure_formedAll ds h.2⟩
theorem pure_formedAll : ∀ (ds : List PyData), formedAll ds = true → pureAll ds = true
  | [], h => rfl
  | d :: ds, h => by
    simp only [formedAll, Bool.and_eq_true] at h
    simp only [pureAll, Bool.and_eq_true]
    exact ⟨pure_formed d h.1, pure_formedAll ds h.2⟩
end
theorem formedAll_snoc {ds : List PyData} {d : PyData} : formedAll (ds ++ [d]) = (formedAll ds && formedD d) := by
  rw [formedAll_append]
  simp [formedAll]
theorem depthAll_snoc {n : Nat} : ∀ {ds : List PyData} {d : PyData}, PyData.depthAll ds ≤ n → d.depth ≤ n → PyData.depthAll (ds ++ [d]) ≤ n
  | [], d, _, h => by simpa [PyData.depthAll] using h
  | e :: ds, d, h1, h2 => by
    rw [List.cons_append, PyData.depthAll]
    rw [PyData.depthAll] at h1
    have := depthAll_snoc (ds := ds) (d := d) (n := n) (by omega) h2
    omega
theorem formed_shape {d : PyData} (h : formedD d = true) : ∃ x ds, d = .tuple (.str x :: ds) ∧ ds.length ≤ 3 ∧ isNm x = true ∧ formedAll ds = true := by
  cases d with
  | tuple ds =>
    cases ds with
    | nil => cases h
    | cons d0 ds =>
      simp only [formedD, Bool.and_eq_true, decide_eq_true_eq] at h
      cases d0 with
      | str z => exact ⟨z, ds, rfl, h.1.1, h.1.2, h.2⟩
      | _ => cases h.1.2
  | _ => cases h
theorem formedAll_get : ∀ {ds : List PyData} {i : Nat} {d : PyData}, formedAll ds = true → ds[i]? = some d → formedD d = true
  | [], _, _, _, h => by simp at h
  | x :: ds, 0, d, hf, h => by
    simp at h
    rw [formedAll, Bool.and_eq_true, h] at hf
    exact hf.1
  | x :: ds, i + 1, d, hf, h => by
    rw [formedAll, Bool.and_eq_true] at hf
    exact formedAll_get hf.2 (by simpa using h)
theorem depthAll_get : ∀ {ds : List PyData} {i : Nat} {d : PyData}, ds[i]? = some d → d.depth ≤ PyData.depthAll ds
  | [], _, _, h => by simp at h
  | x :: ds, 0, d, h => by
    simp at h
    rw [h, PyData.depthAll]
    omega
  | x :: ds, i + 1, d, h => by
    have := depthAll_get (ds := ds) (i := i) (d := d) (by simpa using h)
    rw [PyData.depthAll]
    omega
theorem rowsAll_take : ∀ {ds : List PyData} {i : Nat} {d : PyData}, ds[i]? = some d → rowsAll (ds.take (i + 1)) = rowsAll (ds.take i) ++ rowsD d
  | ds, i, d, h => by
    rw [List.take_add_one, h, rowsAll_append]
    simp [rowsAll]
theorem rowsAll_take_le : ∀ (ds : List PyData) (i : Nat), (rowsAll (ds.take i)).length ≤ (rowsAll ds).length
  | ds, i => by
    have e := List.take_append_drop i ds
    have z : rowsAll (ds.take i ++ ds.drop i) = rowsAll ds := by rw [e]
    rw [rowsAll_append] at z
    rw [← z, List.length_append]
    omega
end K13
/-! t[:1:-1] of a tuple of two to four. -/
namespace Kx
open PySem PySem.Spec PyProof.Rows L2 HT
section
variable {prog : Program} {w : World} {A : Around} {E : Value → Shared → Prop} {s : Shared}
theorem back_adjust {n : Nat} (h : 2 ≤ n) : Builtin.Slice.sliceAdjust none (some 1) (-1) (n : Int) = ((n : Int) - 1, 1) := by
  have neg : (-1 : Int) < 0 := by decide
  unfold Builtin.Slice.sliceAdjust
  simp only [neg, if_true]
  refine Prod.ext ?_ ?_
  · rfl
  · have no : ¬ ((1 : Int) < 0) := by decide
    simp only [no, if_false]
    omega
theorem back_places {n : Nat} (h : 2 ≤ n) : Builtin.Slice.slicePlaces ((n : Int) - 1) 1 (-1) = n - 2 := by
  unfold Builtin.Slice.slicePlaces
  have no : ¬ ((-1 : Int) > 0) := by decide
  simp only [no, if_false]
  rw [show -(-1 : Int) = 1 from rfl, Int.ediv_one]
  split <;> omega
theorem back_pick : ∀ {xs : List Value}, 2 ≤ xs.length → xs.length ≤ 4 → ((List.range (xs.length - 2)).filterMap fun (m : Nat) => xs.toArray[((xs.length : Int) - 1 + (m : Int) * -1).toNat]?) = (xs.drop 2).reverse
  | [a, b], _, _ => rfl
  | [a, b, c], _, _ => rfl
  | [a, b, c, d], _, _ => rfl
  | [], h, _ => by simp at h
  | [_], h, _ => by simp at h
  | _ :: _ :: _ :: _ :: _ :: _, _, h => by simp at h
theorem back_applied {sl : Addr} {vl vu vs : Value} {n : Nat} {Q : Int × Int × Nat → Shared → Prop} (hn : 2 ≤ n) (hs : s.heap.IsSliceOf sl vl vu vs) (pl : IsPart vl none) (pu : IsPart vu (some 1)) (ps : IsPart vs (some (-1)))
    (h : Q ((n : Int) - 1, -1, n - 2) s) : wpAny (model prog w) A (Builtin.Slice.sliceApplied (.ref sl) (pure (n : Int))) Q E s := by
  obtain ⟨ob, h1, h2, h3⟩ := id hs
  unfold Builtin.Slice.sliceApplied Builtin.Slice.sliceFields
  refine wpAny_bind (wpAny_bind (wpAny_field h1 h3 (x := vl) rfl (wpAny_bind (wpAny_field h1 h3 (x := vu) rfl (wpAny_bind (wpAny_field h1 h3 (x := vs) rfl (wpAny_pure ?_)))))))
  refine wpAny_bind (slicePart_ ps ?_)
  show wpAny _ _ (if ((-1 : Int) == 0) = true then _ else _) _ _ s
  rw [if_neg (by decide)]
  refine wpAny_bind (slicePart_ pl (wpAny_bind (slicePart_ pu (wpAny_bind (wpAny_pure ?_)))))
  show wpAny _ _ (match Builtin.Slice.sliceAdjust none (some 1) (-1) (n : Int) with | (lo, hi) => pure (lo, (-1 : Int), Builtin.Slice.slicePlaces lo hi (-1))) _ _ s
  rw [back_adjust hn]
  show wpAny _ _ (pure ((n : Int) - 1, (-1 : Int), Builtin.Slice.slicePlaces ((n : Int) - 1) 1 (-1))) _ _ s
  rw [back_places hn]
  exact wpAny_pure h
theorem getItem_back {t sl : Addr} {xs : List Value} {vl vu vs : Value} {Q : Value → Shared → Prop} (ht : IsTup s.heap t xs.toArray) (h2 : 2 ≤ xs.length) (h4 : xs.length ≤ 4) (hs : s.heap.IsSliceOf sl vl vu vs) (pl : IsPart vl none) (pu : IsPart vu (some 1)) (ps : IsPart vs (some (-1)))
    (h : Q (.ref s.heap.objs.size) { s with heap := s.heap.push { cls := .type "tuple", data := .seq (xs.drop 2).reverse.toArray } }) : wpAny (model prog w) A (getItem (.ref t) (.ref sl)) Q E s := by
  have few : sizeOk (.seq (xs.drop 2).reverse.toArray) := by
    show (xs.drop 2).reverse.toArray.size ≤ sizeLine
    rw [List.size_toArray, List.length_reverse, List.length_drop]
    exact Nat.le_trans (show xs.length - 2 ≤ 4 by omega) (by decide)
  obtain ⟨ob, ho, hc, hd⟩ := id hs
  have isS : s.TypeIs (.ref sl) "slice" := ⟨ob, ho, hc⟩
  unfold getItem
  try with_reducible refine wpAny_holding ?_
  first | refine wpAny_bind (wpAny_pure ?_) | skip
  refine wpAny_bind (wpAny_sequenceKey ht.typeIs (by decide) ?_)
  refine wpAny_bind (wpAny_callSpecial?_slot (name := Str.ofString "__getitem__") ht.typeIs PyProof.Rows.slot_tuple_getitem
    (wpAny_call_entry PyProof.Rows.slot_tuple_getitem ht.typeIs entry_tuple_getitem ?_ (args_tuple_getitem _ _)))
  show wpAny _ _ (Builtin.Tuple.tupleItemsOf (.ref t) >>= _) _ _ s
  refine wpAny_bind (tupleItemsOf_ ht ?_)
  refine wpAny_bind (wpAny_typeOf isS ?_)
  rw [if_pos (by decide)]
  have sz : xs.toArray.size = xs.length := List.size_toArray ..
  refine wpAny_bind (back_applied (n := xs.toArray.size) (by rw [sz]; exact h2) hs pl pu ps ?_)
  rw [sz]
  have no : ¬ ((((xs.length : Int) - 1) == 0 && (-1 : Int) == 1 && (xs.length - 2) == xs.length) = true) := by simp
  show wpAny _ _ (if (((xs.length : Int) - 1) == 0 && (-1 : Int) == 1 && (xs.length - 2) == xs.length) = true then _ else _) _ _ s
  rw [if_neg no, back_pick h2 h4]
  first
    | exact wpAny_bind (m := Builtin.Tuple.tupleExact _) (wpAny_newObj_type (wpAny_pure ⟨_, rfl, wpAny_pure h⟩) few)
    | exact wpAny_bind (m := Builtin.Tuple.tupleExact _) (wpAny_newObj_type (wpAny_bind (wpAny_pure (wpAny_pure ⟨_, rfl, wpAny_pure h⟩))) few)
    | exact wpAny_bind (wpAny_bind (m := Builtin.Tuple.tupleExact _) (wpAny_newObj_type (wpAny_pure (wpAny_pure ⟨_, rfl, wpAny_pure h⟩)) few))
    | exact wpAny_bind (wpAny_bind (m := Builtin.Tuple.tupleExact _) (wpAny_newObj_type (wpAny_pure ⟨_, rfl, wpAny_pure h⟩) few))
end
/-- t[:1:-1], t of two to four: what stands behind the second, from the end -/
def tBack (K : PySem.W.Frag) (te : TE) : TE := fun σ H Q => te σ H fun x H1 => ∃ a xs, x = .ref a ∧ SqT K H1 a xs ∧ 2 ≤ xs.length ∧ xs.length ≤ 4 ∧ ∀ p, H1 p = none → Q (.ref p) (upd H1 p (.tup (xs.drop 2).reverse))
section
variable {X : Cx}
theorem pe_back {e : Expr} {te : TE} {k k2 : Nat} {p1 p2 p3 p4 pos : Pos} (he : PE X e te) : PE X (.Subscript e (.Slice none (some (.Constant (.int 1) k2 p4)) (some (.UnaryOp .USub (.Constant (.int 1) k p1) p2)) p3) pos) (tBack X.K te) := by
  refine ⟨fun pins s σ H Q I h => ?_⟩
  refine Subscript_ (thn (he.run pins s σ H _ I h) fun v s1 ⟨x, H1, I1, r1, q1⟩ => ?_)
  obtain ⟨a, xs, ex, hx, l2, l4, q⟩ := q1
  subst ex
  cases r1
  have hlo : PO X (some (.Constant (.int 1) k2 p4)) (tPart (tC (.int 1))) := po_some pe_int
  have hst : PO X (some (.UnaryOp .USub (.Constant (.int 1) k p1) p2)) (tPart (tUn (rU fun i => .int (-i)) (tC (.int 1)))) := po_some (pe_un un_neg pe_int)
  refine wpAny_Slice (thn (po_none.run pins s1 σ H1 (fun o G => o = none ∧ G = H1) I1 ⟨rfl, rfl⟩) fun vl s2 ⟨l, H2, I2, pl, el, e2⟩ => ?_)
  subst el e2
  refine thn (hlo.run pins s2 σ H2 (fun o G => o = some 1 ∧ G = H2) I2 ⟨1, rfl, rfl, rfl⟩) fun vu s3 ⟨u, H3, I3, pu, eu, e3⟩ => ?_
  subst eu e3
  refine thn (hst.run pins s3 σ H3 (fun o G => o = some (-1) ∧ G = H3) I3 ⟨1, rfl, -1, rfl, rfl, rfl⟩) fun vs s4 ⟨o, H4, I4, ps, eo, e4⟩ => ?_
  subst eo e4
  have I5 : Inv X pins σ H4 { s4 with heap := s4.heap.push { cls := .type "slice", data := .fields #[vl, vu, vs] } } := I4.kept (t' := s4.toks) fun b ob q => Heap.get?_push_of_some _ q
  obtain ⟨its, r, ht, hz⟩ := I5.tuple hx
  have hlen := r.length
  show wpAny (model X.prog X.w) X.A (subscriptTail e (.Slice none (some (.Constant (.int 1) k2 p4)) (some (.UnaryOp .USub (.Constant (.int 1) k p1) p2)) p3) (.ref a) (.ref s4.heap.objs.size)) (EP X pins σ Q) X.xe { s4 with heap := s4.heap.push { cls := .type "slice", data := .fields #[vl, vu, vs] } }
  refine tail_any (ops := [.ref a, .ref s4.heap.objs.size]) ht.typeIs (PyProof.Rows.slot_tuple_getitem.lookup) ?_ (by with_unfolding_all rfl)
  refine getItem_back ht (by omega) (by omega) (Heap.IsSliceOf.new _ vl vu vs) pl pu ps ?_
  refine ⟨.ref _, _, I5.laid (t' := s4.toks) (o := .tup (xs.drop 2).reverse) (fun b ob q => Heap.get?_push_of_some _ q) (Nat.le_refl _) ?_, rfl, q _ (I5.hok.fresh (Nat.le_refl _))⟩
  exact ⟨by rw [List.length_reverse, List.length_drop]; omega, _, (r.drop 2).reverse, IsTup.new _ _⟩
end
end Kx
/-! Texts of terms. -/
namespace K13
open PySem PySem.Spec PyProof.Rows L2 Kx
/-- a text of signs -/
def tS (l : List Nat) : Str := ⟨l.toArray⟩
theorem tS_list (x : Str) : tS x.cps.toList = x := by
  cases x
  rfl
theorem tS_app (l m : List Nat) : tS l ++ tS m = tS (l ++ m) := by
  show Str.append _ _ = _
  unfold Str.append tS
  simp
theorem str_app (x y : Str) : (x ++ y).cps.toList = x.cps.toList ++ y.cps.toList := by
  show (Str.append x y).cps.toList = _
  unfold Str.append
  simp
theorem tS_len (l : List Nat) : (tS l).length = l.length := by
  show l.toArray.size = _
  simp
def catS (ws : List Str) : List Nat := ws.flatMap fun w => w.cps.toList
theorem catS_snoc (ws : List Str) (x : Str) : catS (ws ++ [x]) = catS ws ++ x.cps.toList := by
  simp [catS, List.flatMap_append]
theorem glue_fold (g : Array Nat) : ∀ (ps : List Str) (a : Array Nat), (ps.foldl (fun acc p => acc ++ g ++ p.cps) a).toList = a.toList ++ ps.flatMap fun p => g.toList ++ p.cps.toList
  | [], a => by simp
  | p :: ps, a => by
    rw [List.foldl_cons, glue_fold g ps, List.flatMap_cons]
    simp
theorem join_none (ws : List Str) : Txt.join "" ws = tS (catS ws) := by
  have e : (Txt.join "" ws).cps.toList = catS ws := by
    cases ws with
    | nil => rfl
    | cons x ws =>
      show (((x :: ws).drop 1).foldl (fun acc p => acc ++ (("" : Str)).cps ++ p.cps) x.cps).toList = _
      rw [glue_fold]
      rfl
  rw [← tS_list (Txt.join "" ws), e]
theorem join_comma : ∀ (w : Str) (ws : List Str), Txt.join "," (w :: ws) = tS (w.cps.toList ++ ws.flatMap fun p => 44 :: p.cps.toList)
  | w, ws => by
    have e : (Txt.join "," (w :: ws)).cps.toList = w.cps.toList ++ ws.flatMap fun p => 44 :: p.cps.toList := by
      show (((w :: ws).drop 1).foldl (fun acc p => acc ++ (("," : Str)).cps ++ p.cps) w.cps).toList = _
      rw [glue_fold]
      rfl
    rw [← tS_list (Txt.join "," (w :: ws)), e]
def nmC : PyData → List Nat
  | .str x => x.cps.toList
  | _ => []
mutual
/-- the text of a formed datum -/
def tx : PyData → List Nat
  | .tuple (d :: ds) => nmC d ++ txA ds
  | _ => []
def txA : List PyData → List Nat
  | [] => []
  | e :: es => 40 :: (tx e ++ (txM es ++ [41]))
def txM : List PyData → List Nat
  | [] => []
  | e :: es => 44 :: (tx e ++ txM es)
end
/-- what an item that waits will give -/
def rx : PyData → List Nat
  | .str x => x.cps.toList
  | d => tx d
/-- the items that wait, the last first -/
def rxs (st : List PyData) : List Nat := st.reverse.flatMap rx
theorem rxs_snoc (st : List PyData) (e : PyData) : rxs (st ++ [e]) = rx e ++ rxs st := by
  simp [rxs]
mutual
/-- the steps that an item takes -/
def wt : PyData → Nat
  | .tuple ds => wtA ds + 2
  | _ => 1
def wtA : List PyData → Nat
  | [] => 0
  | d :: ds => wt d + 1 + wtA ds
end
theorem wtA_app : ∀ l m : List PyData, wtA (l ++ m) = wtA l + wtA m
  | [], m => by simp [wtA]
  | d :: l, m => by
    rw [List.cons_append, wtA, wtA, wtA_app l m]
    omega
def wts (st : List PyData) : Nat := (st.map wt).sum
theorem wts_snoc (st : List PyData) (e : PyData) : wts (st ++ [e]) = wts st + wt e := by
  simp [wts]
theorem wt_pos (d : PyData) : 0 < wt d := by
  cases d <;> simp [wt]
/-- commas between, from the end -/
def commas : List PyData → List PyData
  | [] => []
  | d :: ds => commas ds ++ [d, .str ","]
theorem rxs_app (a b : List PyData) : rxs (a ++ b) = rxs b ++ rxs a := by
  simp [rxs]
theorem rxs_commas : ∀ (st ds : List PyData), formedAll ds = true → rxs (st ++ commas ds) = txM ds ++ rxs st
  | st, [], _ => by simp [commas, txM]
  | st, d :: ds, h => by
    rw [formedAll, Bool.and_eq_true] at h
    have ih := rxs_commas st ds h.2
    have e1 : st ++ commas (d :: ds) = (st ++ commas ds) ++ [d] ++ [.str ","] := by simp [commas]
    have e2 : rx d = tx d := by
      cases d with
      | str x => cases h.1
      | _ => rfl
    rw [e1, rxs_snoc, rxs_snoc, ih, txM, e2]
    show [44] ++ _ = _
    simp
theorem wts_commas : ∀ (ds : List PyData), wts (commas ds) = wtA ds
  | [] => rfl
  | d :: ds => by
    have ih := wts_commas ds
    have e : commas (d :: ds) = commas ds ++ [d] ++ [.str ","] := by simp [commas]
    rw [e, wts_snoc, wts_snoc, ih, wtA]
    simp only [wt]
    omega
end K13
/-! written. -/
namespace K13
open PySem PySem.Spec PyProof.Rows L2 Kx
theorem wts_len : ∀ st : List PyData, st.length ≤ wts st
  | [] => Nat.le_refl _
  | e :: st => by
    have := wts_len st
    have := wt_pos e
    simp only [wts, List.map_cons, List.sum_cons, List.length_cons] at *
    omega
theorem commas_len : ∀ ds : List PyData, (commas ds).length = 2 * ds.length
  | [] => rfl
  | d :: ds => by
    have := commas_len ds
    simp only [commas, List.length_append, List.length_cons, List.length_nil]
    omega
theorem wts_app (a b : List PyData) : wts (a ++ b) = wts a + wts b := by simp [wts]
theorem commas_ok : ∀ {ds : List PyData}, formedAll ds = true → ∀ e, e ∈ commas ds → formedD e = true ∨ ∃ y, e = .str y
  | [], _, e, h => nomatch h
  | d :: ds, hf, e, h => by
    rw [formedAll, Bool.and_eq_true] at hf
    rcases List.mem_append.mp h with h | h
    · exact commas_ok hf.2 e h
    · rcases List.mem_cons.mp h with rfl | h
      · exact .inl hf.1
      · rw [List.mem_singleton.mp h]
        exact .inr ⟨_, rfl⟩
theorem drop_at {α : Type} {l : List α} {j : Nat} {y : α} (h : l[j]? = some y) : l.drop j = y :: l.drop (j + 1) := by
  have lt := (List.getElem?_eq_some_iff.mp h).1
  rw [List.getElem?_eq_getElem lt] at h
  rw [List.drop_eq_getElem_cons lt, Option.some.inj h]
theorem rev_at {α : Type} {l : List α} {i : Nat} {y : α} (h : l.reverse[i]? = some y) : i < l.length ∧ l[l.length - 1 - i]? = some y := by
  have lt := (List.getElem?_eq_some_iff.mp h).1
  rw [List.length_reverse] at lt
  rw [List.getElem?_reverse lt] at h
  exact ⟨lt, h⟩
def okI (e : PyData) : Prop := formedD e = true ∨ ∃ y, e = .str y
section
variable {P : Program} {w : World} {K : PySem.W.Frag} {mg : Str → Option Value} {base : Heap}
def spWr (K : PySem.W.Frag) : Sp := fun vs H Q _ => ∃ (x : V) (d : PyData), vs = [x] ∧ Dx K H x d ∧ formedD d = true ∧ wt d ≤ 100000 ∧ (tx d).length ≤ 1000000 ∧ ∀ H', Same H H' → Q (.str (tS (tx d))) H'
theorem ok_wr (T : Tx K mg) : FnOk P w K mg base CX0 1 T.awritten T.dwritten ["term"] (spWr K) := by
  have nd := sc_written.nd
  refine T.fwritten.ok sc_written (fun vs H Q E h => ?_) (fun cdv A outer s H vs Q E hr h => ?_)
  · obtain ⟨x, d, rfl, _⟩ := h
    rfl
  · obtain ⟨x, d, rfl, hx, hf, hw, hl, q⟩ := h
    refine ⟨_, (pss_cons (ps_set (i := 1) nd rfl (.inl rfl) (pe_lst pa_nil))
      (pss_cons (ps_set (i := 2) nd rfl (.inl rfl) (pe_lst (pa_cons (pv 0) pa_nil)))
      (pss_cons (ps_while PassesOwn.never (pt_truth (pv 2) (by intro _; rfl)) (pss_cons (ps_set (i := 3) nd rfl (.inl rfl) (pe_bm0 PySem.F.plainAttrs_list PySem.F.slot_list_pop PySem.F.type_list_pop mt_pop (pv 2)))
      (pss_one (ps_if (pt_val (pe_callB call_isi (by rfl) T.b_isinstance (by decide +kernel) (pa_cons (pv 3) (pa_cons (pe_bltn (v := .ty "str") (by rfl) T.b_str (by decide +kernel) rfl) pa_nil)))) (pss_one (ps_expr (pe_bm PySem.F.plainAttrs_list PySem.F.slot_list_append PySem.F.type_list_append mt_append (pv 1) (pa_cons (pv 3) pa_nil)))) (pss_one (ps_if (pt_cmpR op_eq (pe_callB call_len_seq (by rfl) T.b_len (by decide +kernel) (pa_cons (pv 3) pa_nil)) pe_int (nomark _)) (pss_one (ps_expr (pe_bm PySem.F.plainAttrs_list PySem.F.slot_list_append PySem.F.type_list_append mt_append (pv 1) (pa_cons (pe_ix ix_tup (pv 3) pe_int (fun _ _ => rfl)) pa_nil)))) (pss_cons (ps_expr (pe_bm PySem.F.plainAttrs_list PySem.F.slot_list_append PySem.F.type_list_append mt_append (pv 1) (pa_cons (pe_op op_add_str (pe_ix ix_tup (pv 3) pe_int (fun _ _ => rfl)) pe_str) pa_nil)))
      (pss_cons (ps_expr (pe_bm PySem.F.plainAttrs_list PySem.F.slot_list_append PySem.F.type_list_append mt_append (pv 2) (pa_cons pe_str pa_nil)))
      (pss_cons (ps_for PassesOwn.never rfl (pi_tup (pe_back (pv 3))) (pg_name (i := 4) nd rfl (.inl rfl)) (pss_cons (ps_expr (pe_bm PySem.F.plainAttrs_list PySem.F.slot_list_append PySem.F.type_list_append mt_append (pv 2) (pa_cons (pv 4) pa_nil)))
      (pss_one (ps_expr (pe_bm PySem.F.plainAttrs_list PySem.F.slot_list_append PySem.F.type_list_append mt_append (pv 2) (pa_cons pe_str pa_nil))))))
      (pss_one (ps_expr (pe_bm PySem.F.plainAttrs_list PySem.F.slot_list_append PySem.F.type_list_append mt_append (pv 2) (pa_cons (pe_ix ix_tup (pv 3) pe_int (fun _ _ => rfl)) pa_nil)))))))))))))
      (pss_one (ps_ret (pe_bm PySem.F.plainAttrs_str PySem.F.slot_str_join PySem.F.type_str_join mt_join pe_str (pa_cons (pv 1) pa_nil))))))), ?_⟩
    refine ⟨Nat.zero_le _, fun wl nwl => ?_⟩
    have s1 := same_put (o := .lst []) nwl
    refine ⟨_, rfl, (by show 1 ≤ sizeLine; decide), fun pl npl => ?_⟩
    have npl0 : H pl = none := by
      cases e : H pl with
      | none => rfl
      | some o =>
        rw [s1 _ _ e] at npl
        cases npl
    have nwp : wl ≠ pl := ne_of_none upd_same npl
    have big : ∀ {n : Nat}, n ≤ 200000 → n < sizeLine := fun h => Nat.lt_of_le_of_lt h (by decide)
    refine ⟨fun m σ H2 => (∃ y3 y4, σ = [some x, some (.ref wl), some (.ref pl), y3, y4]) ∧ ∃ (us : List V) (st : List PyData) (ws : List Str), m = wts st ∧ H2 pl = some (.lst us) ∧ H2 wl = some (.lst (ws.map V.str)) ∧ Same H H2 ∧ DxAll K H us st ∧ (∀ e, e ∈ st → okI e) ∧ ws.length + wts st ≤ wt d ∧ catS ws ++ rxs st = tx d,
      ⟨wts [d], ⟨none, none, rfl⟩, [x], [d], [], rfl, upd_same, ?_, s1.trans (same_put npl), .cons hx .nil, fun e he => ?_, ?_, ?_⟩, ?_⟩
    · rw [upd_ne nwp, upd_same]
      rfl
    · rw [List.mem_singleton.mp he]
      exact .inl hf
    · show 0 + wts [d] ≤ wt d
      simp [wts]
    · cases d with
      | str y => cases hf
      | _ => simp [catS, rxs, rx]
    rintro m σ H2 ⟨⟨y3, y4, rfl⟩, us, st, ws, rfl, ep, ew, sm, dx, ok, bd, tot⟩
    refine ⟨_, rfl, _, .inl ⟨us, .inl (.inl ep), rfl⟩, ?_⟩
    rcases snoc_or st with rfl | ⟨st, e, rfl⟩
    · cases dx
      refine iteF ⟨rfl, _, rfl, "", wl, ws, rfl, rfl, .inl (.inl (.inl ew)), ?_, ?_⟩
      · have e1 : (ws.map (·.length)).sum = (catS ws).length := by
          clear ew bd tot
          induction ws with
          | nil => rfl
          | cons a ws ih =>
            rw [List.map_cons, List.sum_cons, ih]
            show _ = (a.cps.toList ++ catS ws).length
            rw [List.length_append, Array.length_toList]
            rfl
        have e2 : catS ws = tx d := by
          rw [← tot]
          simp [rxs]
        rw [e1, e2]
        show _ + ws.length * 0 ≤ _
        omega
      · rw [join_none]
        have e2 : catS ws = tx d := by
          rw [← tot]
          simp [rxs]
        rw [e2]
        exact q H2 sm
    obtain ⟨us, v, rfl, dx', hv⟩ := snocDx dx
    have ne : (!(us ++ [v]).isEmpty) = true := by cases us <;> rfl
    rw [ne]
    rw [wts_snoc] at bd
    rw [rxs_snoc] at tot
    have oke := ok e (by simp)
    have ok' : ∀ e, e ∈ st → okI e := fun a ha => ok a (by simp [ha])
    have wpos := wt_pos e
    have lus := dx'.length
    have lst' : st.length ≤ wts st := wts_len st
    refine iteT ⟨fun σ' H' => ∃ m', m' < wts (st ++ [e]) ∧ _, fun _ _ h => h, ?_⟩
    refine ⟨_, rfl, .inl ⟨rfl, _, .inl (.inl ep)⟩, pl, _, v, rfl, rfl, ep, by simp, ?_⟩
    rw [List.dropLast_concat]
    have sm3 : Same H (upd H2 pl (.lst us)) := fun c o hc => by
      rw [upd_ne (ne_of_none hc npl0)]
      exact sm c o hc
    have ew3 : (upd H2 pl (.lst us)) wl = some (.lst (ws.map V.str)) := by
      rw [upd_ne nwp]
      exact ew
    have ep3 : (upd H2 pl (.lst us)) pl = some (.lst us) := upd_same
    generalize upd H2 pl (.lst us) = H3 at sm3 ew3 ep3 ⊢
    refine ⟨_, rfl, v, .ty "str", _, _, _, rfl, .ty _, (hv.up sm3).ty, kit_ty (kit_str e), _, rfl, ?_⟩
    have lws : ws.length ≤ 100000 := by omega
    have lst3 : us.length ≤ 100000 := by omega
    rcases oke with fe | ⟨y, rfl⟩
    · -- a term
      obtain ⟨nm, es, rfl, l3, hnm, hfa⟩ := formed_shape fe
      cases hv with
      | @tup b xs _ hb hs =>
      cases hs with
      | @cons v0 vs0 _ _ h0 hws =>
      cases h0
      have lw := hws.length
      have hb3 := sm3 _ _ hb
      have hn8 : nm.length ≤ 8 := by
        simp only [isNm, Bool.and_eq_true, decide_eq_true_eq] at hnm
        exact hnm.1.2
      refine iteF ⟨_, rfl, b, _, rfl, .inr (SqT.of hb3), rfl, _, rfl, ite2 (fun e1 => ?_) (fun e1 => ?_)⟩
      · -- of a name alone
        have n0 : es = [] := by
          have z := V.int.inj (of_decide_eq_true e1)
          refine List.eq_nil_of_length_eq_zero ?_
          rw [List.length_cons] at z
          omega
        subst n0
        refine ⟨_, rfl, .inl ⟨rfl, _, .inl (.inl ew3)⟩, _, rfl, b, _, 0, .str nm, rfl, rfl, SqT.of hb3, atI_nat (j := 0) rfl, wl, _, .str nm, rfl, rfl, ew3, big (by rw [List.length_map]; omega), ?_⟩
        refine ⟨wts st, by rw [wts_snoc]; omega, ⟨_, _, rfl⟩, us, st, ws ++ [nm], rfl, by rw [upd_ne nwp.symm]; exact ep3, by rw [upd_same, List.map_append]; rfl, fun c o hc => ?_, dx', ok', by rw [List.length_append]; simp only [List.length_singleton]; omega, ?_⟩
        · rw [upd_ne (ne_of_none hc nwl)]
          exact sm3 c o hc
        · rw [catS_snoc, ← tot]
          simp [rx, tx, nmC, txA]
      · -- with others
        cases hws with
        | nil => exact absurd rfl e1
        | @cons v1 vr e1d rest hv1 hrest =>
        have lr := hrest.length
        have hfa2 : formedD e1d = true ∧ formedAll rest = true := by simpa [formedAll] using hfa
        have lrest : rest.length ≤ 2 := by
          rw [List.length_cons] at l3
          omega
        have wte : wt (.tuple (.str nm :: e1d :: rest)) = wt e1d + 1 + wtA rest + 4 := by
          simp only [wt, wtA]
          omega
        rw [wte] at bd
        have wp1 := wt_pos e1d
        refine ⟨_, rfl, .inl ⟨rfl, _, .inl (.inl ew3)⟩, _, rfl, b, _, 0, .str nm, rfl, rfl, SqT.of hb3, atI_nat (j := 0) rfl, nm, "(", rfl, rfl, Nat.le_of_lt (small1000 (by show nm.length + 1 ≤ 1000; omega)), wl, _, _, rfl, rfl, ew3, big (by rw [List.length_map]; omega), ?_⟩
        have sm4 : Same H (upd H3 wl (.lst (ws.map V.str ++ [.str (nm ++ "(")]))) := fun c o hc => by
          rw [upd_ne (ne_of_none hc nwl)]
          exact sm3 c o hc
        have ep4 : (upd H3 wl (.lst (ws.map V.str ++ [.str (nm ++ "(")]))) pl = some (.lst us) := by
          rw [upd_ne nwp.symm]
          exact ep3
        have ew4 : (upd H3 wl (.lst (ws.map V.str ++ [.str (nm ++ "(")]))) wl = some (.lst ((ws ++ [nm ++ "("]).map V.str)) := by
          rw [upd_same, List.map_append]
          rfl
        generalize upd H3 wl (.lst (ws.map V.str ++ [.str (nm ++ "(")])) = H4 at sm4 ep4 ew4 ⊢
        refine ⟨_, rfl, .inl ⟨rfl, _, .inl (.inl ep4)⟩, pl, us, .str ")", rfl, rfl, ep4, big (by omega), ?_⟩
        have put : ∀ {G : Hp} {xs : List V}, Same H G → G wl = some (.lst ((ws ++ [nm ++ "("]).map V.str)) → Same H (upd G pl (.lst xs)) ∧ (upd G pl (.lst xs)) wl = some (.lst ((ws ++ [nm ++ "("]).map V.str)) := fun sG eG => ⟨fun c o hc => by
            rw [upd_ne (ne_of_none hc npl0)]
            exact sG c o hc, by
            rw [upd_ne nwp]
            exact eG⟩
        obtain ⟨sm5, ew5⟩ := put (xs := us ++ [.str ")"]) sm4 ew4
        have ep5 : (upd H4 pl (.lst (us ++ [.str ")"]))) pl = some (.lst (us ++ [.str ")"])) := upd_same
        generalize upd H4 pl (.lst (us ++ [.str ")"])) = H5 at sm5 ep5 ew5 ⊢
        have hb5 := sm5 _ _ hb
        have lvr : (V.str nm :: v1 :: vr).length ≤ 4 := by
          rw [List.length_cons, List.length_cons]
          omega
        refine ⟨_, rfl, b, _, rfl, SqT.of hb5, by rw [List.length_cons, List.length_cons]; omega, lvr, fun u nu => ⟨u, rfl, ⟨_, SqT.of upd_same⟩, ?_⟩⟩
        have su := same_put (o := .tup ((V.str nm :: v1 :: vr).drop 2).reverse) nu
        have npu : pl ≠ u := ne_of_none ep5 nu
        refine for_tup (K := K) (a := u) (xs := ((V.str nm :: v1 :: vr).drop 2).reverse) (fun i σ H6 => (∃ y5, σ = [some x, some (.ref wl), some (.ref pl), some (.ref b), y5]) ∧ Same H H6 ∧ H6 wl = some (.lst ((ws ++ [nm ++ "("]).map V.str)) ∧ H6 u = some (.tup ((V.str nm :: v1 :: vr).drop 2).reverse) ∧ ∃ (ys : List V), H6 pl = some (.lst (us ++ [.str ")"] ++ ys)) ∧ DxAll K H ys (commas (rest.drop (rest.length - i))))
          ⟨⟨_, rfl⟩, sm5.trans su, su _ _ ew5, upd_same, [], by rw [List.append_nil]; exact su _ _ ep5, by simp [commas]; exact .nil⟩ (fun i σ H6 _ h => SqT.of h.2.2.2.1) ?_ ?_
        · rintro i y σ H6 hi ⟨⟨y5, rfl⟩, s6, ew6, eu6, ys, ep6, dys⟩
          obtain ⟨lti, hi⟩ := rev_at hi
          have lvv : ((V.str nm :: v1 :: vr).drop 2).length = rest.length := lr
          rw [lvv] at lti hi
          have hi : vr[rest.length - 1 - i]? = some y := hi
          have lt : rest.length - 1 - i < rest.length := by omega
          have gd := List.getElem?_eq_getElem lt
          obtain ⟨v2, hv2, dv2⟩ := hrest.get gd
          rw [hi] at hv2
          cases hv2
          have ed : rest.drop (rest.length - (i + 1)) = rest[rest.length - 1 - i] :: rest.drop (rest.length - i) := by
            rw [show rest.length - (i + 1) = rest.length - 1 - i by omega, drop_at gd, show rest.length - 1 - i + 1 = rest.length - i by omega]
          have lys := dys.length
          rw [commas_len, List.length_drop] at lys
          have lbig : (us ++ [V.str ")"] ++ ys).length ≤ 100010 := by
            rw [List.length_append, List.length_append, List.length_singleton]
            omega
          refine ⟨_, rfl, .inl ⟨rfl, _, .inl (.inl ep6)⟩, _, rfl, pl, _, y, rfl, rfl, ep6, big (by omega), ?_⟩
          obtain ⟨s7, ew7⟩ := put (xs := us ++ [.str ")"] ++ ys ++ [y]) s6 ew6
          have eu7 : (upd H6 pl (.lst (us ++ [.str ")"] ++ ys ++ [y]))) u = some (.tup ((V.str nm :: v1 :: vr).drop 2).reverse) := by
            rw [upd_ne npu.symm]
            exact eu6
          refine ⟨_, rfl, .inl ⟨rfl, _, .inl (.inl upd_same)⟩, pl, _, .str ",", rfl, rfl, upd_same, big (by rw [List.length_append, List.length_singleton]; omega), ?_⟩
          obtain ⟨s8, ew8⟩ := put (xs := us ++ [.str ")"] ++ ys ++ [y] ++ [.str ","]) s7 ew7
          refine ⟨⟨_, rfl⟩, s8, ew8, ?_, ys ++ [y, .str ","], ?_, ?_⟩
          · rw [upd_ne npu.symm]
            exact eu7
          · rw [upd_same]
            simp
          · rw [ed, commas]
            exact DxAll.append dys (.cons dv2 (.cons (.str _) .nil))
        · rintro σ H6 ⟨⟨y5, rfl⟩, s6, ew6, eu6, ys, ep6, dys⟩
          have lvv : ((V.str nm :: v1 :: vr).drop 2).reverse.length = rest.length := by
            rw [List.length_reverse]
            exact lr
          rw [lvv, Nat.sub_self, List.drop_zero] at dys
          have lys := dys.length
          rw [commas_len] at lys
          have hb6 := s6 _ _ hb
          have lbig : (us ++ [V.str ")"] ++ ys).length ≤ 100010 := by
            rw [List.length_append, List.length_append, List.length_singleton]
            omega
          refine ⟨_, rfl, .inl ⟨rfl, _, .inl (.inl ep6)⟩, _, rfl, b, _, 1, v1, rfl, rfl, SqT.of hb6, atI_nat (j := 1) rfl, pl, _, v1, rfl, rfl, ep6, big (by omega), ?_⟩
          obtain ⟨s7, ew7⟩ := put (xs := us ++ [.str ")"] ++ ys ++ [v1]) s6 ew6
          have wc := wts_commas rest
          refine ⟨wts (st ++ [.str ")"] ++ commas rest ++ [e1d]), ?_, ⟨_, _, rfl⟩, us ++ [.str ")"] ++ ys ++ [v1], st ++ [.str ")"] ++ commas rest ++ [e1d], ws ++ [nm ++ "("], rfl, upd_same, ew7, s7, ?_, fun e he => ?_, ?_, ?_⟩
          · rw [wts_snoc, wts_snoc, wts_app, wts_snoc, wc, wte]
            show wts st + 1 + wtA rest + wt e1d < _
            omega
          · exact DxAll.append (DxAll.append (DxAll.append dx' (.cons (.str _) .nil)) dys) (.cons hv1 .nil)
          · rcases List.mem_append.mp he with he | he
            · rcases List.mem_append.mp he with he | he
              · rcases List.mem_append.mp he with he | he
                · exact ok' e he
                · rw [List.mem_singleton.mp he]
                  exact .inr ⟨_, rfl⟩
              · exact commas_ok hfa2.2 e he
            · rw [List.mem_singleton.mp he]
              exact .inl hfa2.1
          · rw [wts_snoc, wts_app, wts_snoc, wc, List.length_append, List.length_singleton]
            show _ + 1 + (wts st + 1 + wtA rest + wt e1d) ≤ _
            omega
          · have e2 : rx e1d = tx e1d := by
              cases e1d with
              | str y => cases hfa2.1
              | _ => rfl
            rw [rxs_snoc, rxs_commas _ _ hfa2.2, rxs_snoc, catS_snoc, ← tot, str_app, e2]
            show catS ws ++ (nm.cps.toList ++ [40]) ++ (tx e1d ++ (txM rest ++ ([41] ++ rxs st))) = catS ws ++ ((nm.cps.toList ++ 40 :: (tx e1d ++ (txM rest ++ [41]))) ++ rxs st)
            simp
    · -- a sign
      refine iteT ?_
      cases hv
      refine ⟨_, rfl, .inl ⟨rfl, _, .inl (.inl ew3)⟩, _, rfl, wl, _, .str y, rfl, rfl, ew3, big (by rw [List.length_map]; omega), ?_⟩
      refine ⟨wts st, by rw [wts_snoc]; omega, ⟨_, _, rfl⟩, us, st, ws ++ [y], rfl, by rw [upd_ne nwp.symm]; exact ep3, by rw [upd_same, List.map_append]; rfl, fun c o hc => ?_, dx', ok', by rw [List.length_append]; simp only [List.length_singleton]; omega, ?_⟩
      · rw [upd_ne (ne_of_none hc nwl)]
        exact sm3 c o hc
      · rw [catS_snoc, ← tot]
        simp [rx]
end
end K13
/-! Slices and sums of tuples as data. -/
namespace Kx
open PySem PySem.Spec PyProof.Rows L2
theorem offs_nil {H : Hp} : Same H (OffS [] H) := fun b o h => OffS.out (fun z => nomatch z) h
theorem olds_nil {H : Hp} : Olds [] H := fun b z => nomatch z
section
variable {K : PySem.W.Frag} {S : List Addr} {H : Hp} {x y : V} {ds es : List PyData} {Q : VK}
theorem sl_upto {i : Nat} (hx : Dx K (OffS S H) x (.tuple ds)) (o : Olds S H) (q : ∀ y H', Same H H' → Dx K (OffS S H') y (.tuple (ds.take i)) → Q y H') : rSlA K x none (some (i : Int)) H Q := by
  cases hx with
  | @tup a xs _ ha hs =>
  refine ⟨a, xs, rfl, SqT.of (OffS.all _ _ ha), fun z => ?_, fun _ p np => ?_⟩
  · have e : min i xs.length = xs.length := by
      have := z.2
      rwa [show HT.sIx xs.length xs.length (some (i : Int)) = min i xs.length from HT.sIx_nat xs.length xs.length i] at this
    refine q _ _ (Same.refl H) ?_
    rw [List.take_of_length_le (by rw [← hs.length]; omega)]
    exact .tup ha hs
  · have e : cutV xs none (some (i : Int)) = xs.take i := by
      unfold cutV
      rw [show HT.sIx xs.length xs.length (some (i : Int)) = min i xs.length from HT.sIx_nat xs.length xs.length i, show HT.sIx xs.length 0 none = 0 from rfl, List.drop_zero, Nat.sub_zero]
      by_cases e : i ≤ xs.length
      · rw [Nat.min_eq_left e]
      · rw [Nat.min_eq_right (by omega), List.take_length, List.take_of_length_le (by omega)]
    rw [e]
    exact q _ _ (same_put np) (.tup (OffS.out (o.new np) upd_same) ((hs.take i).up (OffS.same (same_put np))))
theorem sl_from {i : Nat} (hx : Dx K (OffS S H) x (.tuple ds)) (o : Olds S H) (q : ∀ y H', Same H H' → Dx K (OffS S H') y (.tuple (ds.drop i)) → Q y H') : rSlA K x (some (i : Int)) none H Q := by
  cases hx with
  | @tup a xs _ ha hs =>
  refine ⟨a, xs, rfl, SqT.of (OffS.all _ _ ha), fun z => ?_, fun _ p np => ?_⟩
  · have e : min i xs.length = 0 := by
      have := z.1
      rwa [show HT.sIx xs.length 0 (some (i : Int)) = min i xs.length from HT.sIx_nat xs.length 0 i] at this
    refine q _ _ (Same.refl H) ?_
    by_cases h : i = 0
    · rw [h, List.drop_zero]
      exact .tup ha hs
    · have : ds = [] := List.eq_nil_of_length_eq_zero (by rw [← hs.length]; omega)
      rw [this] at hs ⊢
      rw [List.drop_nil]
      exact .tup ha hs
  · have e : cutV xs (some (i : Int)) none = xs.drop i := by
      unfold cutV
      rw [show HT.sIx xs.length 0 (some (i : Int)) = min i xs.length from HT.sIx_nat xs.length 0 i, HT.sIx_none]
      by_cases e : i ≤ xs.length
      · rw [Nat.min_eq_left e, List.take_of_length_le (by rw [List.length_drop]; omega)]
      · rw [Nat.min_eq_right (by omega), Nat.sub_self, List.take_zero, List.drop_eq_nil_of_le (by omega)]
    rw [e]
    exact q _ _ (same_put np) (.tup (OffS.out (o.new np) upd_same) ((hs.drop i).up (OffS.same (same_put np))))
theorem cat_tups (hx : Dx K (OffS S H) x (.tuple ds)) (hy : Dx K (OffS S H) y (.tuple es)) (o : Olds S H) (few : ds.length + es.length ≤ sizeLine) (q : ∀ z H', Same H H' → Dx K (OffS S H') z (.tuple (ds ++ es)) → Q z H') : rCatA K x y H Q := by
  cases hx with
  | @tup a xs _ ha hs =>
  cases hy with
  | @tup b ys _ hb ht =>
  refine ⟨a, b, xs, ys, rfl, rfl, SqT.of (OffS.all _ _ ha), SqT.of (OffS.all _ _ hb), by rw [hs.length, ht.length]; exact few, fun e => ?_, fun _ e => ?_, fun _ _ p np => ?_⟩
  · subst e
    cases hs
    exact q _ _ (Same.refl H) (.tup hb ht)
  · subst e
    cases ht
    rw [List.append_nil] at q
    exact q _ _ (Same.refl H) (.tup ha hs)
  · exact q _ _ (same_put np) (.tup (OffS.out (o.new np) upd_same) (DxAll.append (hs.up (OffS.same (same_put np))) (ht.up (OffS.same (same_put np)))))
end
end Kx
/-! The law's own texts. -/
namespace K13
open PySem PySem.Spec PyProof.Rows L2 Kx
theorem tx_part {ds : List PyData} {i : Nat} {d : PyData} : ds[i]? = some d → (tx d).length ≤ (txM ds).length := by
  induction ds generalizing i with
  | nil => intro h; simp at h
  | cons e ds ih =>
    intro h
    rw [txM, List.length_cons, List.length_append]
    cases i with
    | zero =>
      simp at h
      rw [h]
      omega
    | succ i =>
      have := ih (i := i) (by simpa using h)
      omega
theorem txA_len (ds : List PyData) : (txM ds).length ≤ (txA ds).length := by
  cases ds with
  | nil => exact Nat.le_refl _
  | cons e ds =>
    simp only [txM, txA, List.length_cons, List.length_append]
    omega
theorem txM_sum : ∀ l : List PyData, ((l.map fun e => tS (tx e)).map (·.length)).sum + l.length = (txM l).length
  | [] => rfl
  | e :: l => by
    have := txM_sum l
    rw [List.map_cons, List.map_cons, List.sum_cons, tS_len, List.length_cons, txM, List.length_cons, List.length_append]
    omega
section
variable {P : Program} {w : World} {K : PySem.W.Frag} {mg : Str → Option Value} {base : Heap}
def spTxt (K : PySem.W.Frag) (n : Nat) : Sp := fun vs H Q _ => ∃ (x : V) (d : PyData), vs = [x] ∧ Dx K H x d ∧ formedD d = true ∧ d.depth ≤ n ∧ (tx d).length ≤ 1000000 ∧ ∀ H', Same H H' → Q (.str (tS (tx d))) H'
theorem ok_txt (T : Tx K mg) : ∀ n, FnOk P w K mg base CX0 (n + 1) T.a_law_text T.d_law_text ["term"] (spTxt K n)
  | 0 => by
    refine T.f_law_text.ok sc__law_text (fun vs H Q E h => ?_) (fun cdv A outer s H vs Q E hr h => ?_)
    · obtain ⟨x, d, rfl, _⟩ := h
      rfl
    · exfalso
      obtain ⟨x, d, rfl, hx, hf, hd, _⟩ := h
      obtain ⟨z, ds, rfl, _⟩ := formed_shape hf
      simp [PyData.depth] at hd
  | n + 1 => by
    have nd := sc__law_text.nd
    have G := ok_txt T n
    refine T.f_law_text.ok sc__law_text (fun vs H Q E h => ?_) (fun cdv A outer s H vs Q E hr h => ?_)
    · obtain ⟨x, d, rfl, _⟩ := h
      rfl
    · obtain ⟨x, d, rfl, hx, hf, hd, hl, q⟩ := h
      refine ⟨_, (pss_cons (ps_if (pt_cmpR op_eq (pe_callB call_len_seq (by rfl) T.b_len (by decide +kernel) (pa_cons (pv 0) pa_nil)) pe_int (nomark _)) (pss_one (ps_ret (pe_ix ix_tup (pv 0) pe_int (fun _ _ => rfl)))) pss_nil)
      (pss_one (ps_ret (pe_op op_add_str (pe_op op_add_str (pe_op op_add_str (pe_ix ix_tup (pv 0) pe_int (fun _ _ => rfl)) pe_str) (pe_bm PySem.F.plainAttrs_str PySem.F.slot_str_join PySem.F.type_str_join mt_join pe_str (pa_cons (pe_lc (own := [("part", 1)]) (g := (gName 1)) (tt := tYes) (by rfl) nd (pi_tup (pe_slice sl_tupA (pv 0) (po_some pe_int) po_none)) (blkOk_by (own := [("part", 1)]) (N := N__law_text) (sc := defScope s__law_text) (by decide +kernel)) (fun _ _ _ _ _ => pg_name (i := 1) nd rfl (.inl rfl)) (fun _ _ _ _ _ => pts_nil) (fun _ _ _ _ _ => (pe_call G (hr.mono (by omega)) (by rfl) T.g_law_text T.f_law_text.kp T.n_law_text .nil pass0 (pa_cons (pv 1) pa_nil)))) pa_nil))) pe_str)))), ?_⟩
      obtain ⟨nm, ds, rfl, l3, hnm, hfa⟩ := formed_shape hf
      cases hx with
      | @tup b xs _ hb hs =>
      cases hs with
      | @cons v0 vs0 _ _ h0 hws =>
      cases h0
      have lw := hws.length
      have hn8 : nm.length ≤ 8 := by
        simp only [isNm, Bool.and_eq_true, decide_eq_true_eq] at hnm
        exact hnm.1.2
      refine ⟨_, rfl, b, _, rfl, .inr (SqT.of hb), rfl, _, rfl, ite2 (fun e1 => ?_) (fun e1 => ?_)⟩
      · have n0 : ds = [] := by
          have z := V.int.inj (of_decide_eq_true e1)
          refine List.eq_nil_of_length_eq_zero ?_
          rw [List.length_cons] at z
          omega
        subst n0
        have := q H (Same.refl H)
        rw [show tS (tx (.tuple [.str nm])) = nm by simp [tx, nmC, txA, tS_list]] at this
        exact ⟨_, rfl, b, _, 0, .str nm, rfl, rfl, SqT.of hb, atI_nat (j := 0) rfl, this⟩
      · cases hws with
        | nil => exact absurd rfl e1
        | @cons v1 vr d1 rest hv1 hrest =>
        have hw2 : DxAll K H (v1 :: vr) (d1 :: rest) := .cons hv1 hrest
        have dd : PyData.depthAll (d1 :: rest) ≤ n := by
          simp only [PyData.depth, PyData.depthAll] at hd ⊢
          omega
        have lenA : (txM (d1 :: rest)).length ≤ 1000000 := by
          have := txA_len (d1 :: rest)
          have e : tx (.tuple (.str nm :: d1 :: rest)) = nm.cps.toList ++ txA (d1 :: rest) := by simp [tx, nmC]
          rw [e, List.length_append] at hl
          omega
        refine ⟨_, rfl, b, _, 0, .str nm, rfl, rfl, SqT.of hb, atI_nat (j := 0) rfl, nm, "(", rfl, rfl, Nat.le_of_lt (small1000 (by show nm.length + 1 ≤ 1000; omega)), ?_⟩
        refine ⟨rfl, _, rfl, 1, rfl, ?_⟩
        dsimp only [tNoPart]
        refine sl_from (S := []) (i := 1) ((Dx.tup hb (.cons (.str nm) hw2)).up offs_nil) olds_nil fun y H1 s1 dy => ?_
        have dy := dy.up OffS.all
        rw [List.drop_one, List.tail_cons] at dy
        cases dy with
        | @tup c us _ hc hus =>
        refine ⟨c, rfl, ⟨_, SqT.of hc⟩, fun D nD => ?_⟩
        have lus := hus.length
        have l3' : us.length ≤ 3 := by omega
        refine lc_tup (K := K) (a := c) (xs := us) (fun i H2 => Same H1 H2 ∧ H2 D = some (.lst (((d1 :: rest).take i).map fun e => V.str (tS (tx e))))) ⟨same_put nD, upd_same⟩ (fun i H2 _ h => SqT.of (h.1 _ _ hc)) ?_ ?_
        · rintro i y H2 hi ⟨s2, e2⟩
          have lt : i < (d1 :: rest).length := by
            rw [← lus]
            exact (List.getElem?_eq_some_iff.mp hi).1
          have gd := List.getElem?_eq_getElem lt
          obtain ⟨v2, hv2, dv2⟩ := hus.get gd
          rw [hi] at hv2
          cases hv2
          have tl := tx_part gd
          refine ⟨rfl, (iteT (B := False) ?_ : if true = true then _ else False)⟩
          refine ⟨_, rfl, y, _, rfl, dv2.up s2, formedAll_get hfa gd, Nat.le_trans (depthAll_get gd) dd, by omega, fun H3 s3 => ⟨_, s3 _ _ e2, ?_, fun o ob ho => ?_, ?_⟩⟩
          · rw [List.length_map, List.length_take]
            exact small1000 (by omega)
          · rw [upd_ne (ne_of_none ho nD)]
            exact s3 _ _ (s2 _ _ ho)
          · rw [upd_same, List.take_add_one, gd, List.map_append]
            rfl
        · rintro H2 ⟨s2, e2⟩
          rw [lus, List.take_length] at e2
          have ej : Txt.join "," ((d1 :: rest).map fun e => tS (tx e)) = tS (tx d1 ++ txM rest) := by
            rw [List.map_cons, join_comma]
            have : ∀ l : List PyData, (l.map fun e => tS (tx e)).flatMap (fun p => 44 :: p.cps.toList) = txM l := by
              intro l
              induction l with
              | nil => rfl
              | cons a l ih =>
                rw [List.map_cons, List.flatMap_cons, ih, txM]
                show 44 :: (tS (tx a)).cps.toList ++ _ = _
                rw [show (tS (tx a)).cps.toList = tx a from List.toList_toArray ..]
                rfl
            rw [this, show (tS (tx d1)).cps.toList = tx d1 from List.toList_toArray ..]
          have fin := q H2 (s1.trans s2)
          have et : tS (tx (.tuple (.str nm :: d1 :: rest))) = nm ++ "(" ++ tS (tx d1 ++ txM rest) ++ ")" := by
            rw [← tS_list (nm ++ "(" ++ tS (tx d1 ++ txM rest) ++ ")"), str_app, str_app, str_app, show (tS (tx d1 ++ txM rest)).cps.toList = tx d1 ++ txM rest from List.toList_toArray ..]
            congr 1
            show nm.cps.toList ++ 40 :: (tx d1 ++ (txM rest ++ [41])) = nm.cps.toList ++ [40] ++ (tx d1 ++ txM rest) ++ [41]
            simp
          rw [et] at fin
          have sm := txM_sum (d1 :: rest)
          have eM : (tx d1 ++ txM rest).length + 1 = (txM (d1 :: rest)).length := by
            rw [txM, List.length_cons]
          have lj : (nm ++ "(").length = nm.length + 1 := by
            show (nm ++ "(").cps.size = _
            rw [← Array.length_toList, str_app, List.length_append, Array.length_toList]
            rfl
          refine ⟨",", D, (d1 :: rest).map fun e => tS (tx e), rfl, rfl, .inl (.inl (.inl (by rw [e2, List.map_map]; rfl))), ?_, ?_⟩
          · rw [List.length_map]
            show _ + (d1 :: rest).length * 1 ≤ _
            rw [Nat.mul_one]
            omega
          rw [ej]
          have lt : (tS (tx d1 ++ txM rest)).length = (tx d1 ++ txM rest).length := tS_len _
          have l2 : (nm ++ "(" ++ tS (tx d1 ++ txM rest)).length = nm.length + 1 + (tx d1 ++ txM rest).length := by
            show (nm ++ "(" ++ tS (tx d1 ++ txM rest)).cps.size = _
            rw [← Array.length_toList, str_app, List.length_append, Array.length_toList, ← lj, ← lt, Array.length_toList]
            rfl
          refine ⟨_, _, rfl, rfl, ?_, _, _, rfl, rfl, ?_, fin⟩
          · rw [lj, lt]
            exact Nat.le_trans (show nm.length + 1 + (tx d1 ++ txM rest).length ≤ 1000020 by omega) (by decide)
          · rw [l2]
            exact Nat.le_trans (show nm.length + 1 + (tx d1 ++ txM rest).length + 1 ≤ 1000020 by omega) (by decide)
end
end K13
/-! The stack machine of parsed. -/
namespace K13
open PySem PySem.Spec PyProof.Rows L2 Kx
/-- heads and rows, the last first; the last word -/
structure PM where
  hs : List Str
  rs : List (List PyData)
  last : Str
def ended (x : Str) : Bool := !(decide (x = "(") || decide (x = ","))
def pstep (m : PM) (w : Str) : Option PM :=
  if Txt.isalpha w = true then
    if ended m.last = true then none else match m.rs with
      | r :: rs => some ⟨m.hs, (r ++ [.tuple [.str w]]) :: rs, w⟩
      | [] => none
  else if w = "(" then
    if Txt.isalpha m.last = true then match m.rs with
      | r :: rs => some ⟨m.last :: m.hs, [] :: r.dropLast :: rs, w⟩
      | [] => none
    else none
  else if ended m.last = true then match m.hs with
    | [] => none
    | h :: hs => if w = ")" then match m.rs with
        | r :: r2 :: rs => some ⟨hs, (r2 ++ [.tuple (.str h :: r)]) :: rs, w⟩
        | _ => none
      else some ⟨m.hs, m.rs, w⟩
  else none
def prun : List Str → PM → Option PM
  | [], m => some m
  | w :: ws, m => (pstep m w).bind (prun ws)
def pout (m : PM) : Option PyData := if ended m.last = true ∧ m.hs = [] then (m.rs.head?).bind List.head? else none
def pm0 : PM := ⟨[], [[]], "("⟩
def parseD (ws : List Str) : Option PyData := (prun ws pm0).bind pout
theorem prun_snoc : ∀ (ws : List Str) (w : Str) (m : PM), prun (ws ++ [w]) m = (prun ws m).bind fun m' => pstep m' w
  | [], w, m => by
    show (pstep m w).bind (prun []) = (some m).bind fun m' => pstep m' w
    show _ = pstep m w
    cases pstep m w <;> rfl
  | a :: ws, w, m => by
    show (pstep m a).bind (prun (ws ++ [w])) = ((pstep m a).bind (prun ws)).bind _
    cases pstep m a with
    | none => rfl
    | some m2 => exact prun_snoc ws w m2
theorem prun_none : ∀ (ws vs : List Str) (m : PM), prun ws m = none → prun (ws ++ vs) m = none
  | [], vs, m, h => by cases h
  | a :: ws, vs, m, h => by
    have h : (pstep m a).bind (prun ws) = none := h
    show (pstep m a).bind (prun (ws ++ vs)) = none
    cases e : pstep m a with
    | none => rfl
    | some m2 =>
      rw [e] at h
      exact prun_none ws vs m2 h
/-- what every state has -/
structure PWf (m : PM) : Prop where
  len : m.rs.length = m.hs.length + 1
  top : ended m.last = true → ∃ r rs, m.rs = r :: rs ∧ r ≠ []
  pure : ∀ r, r ∈ m.rs → pureAll r = true
theorem pure_snoc {r : List PyData} {d : PyData} (h : pureAll r = true) (hd : pureD d = true) : pureAll (r ++ [d]) = true := by
  induction r with
  | nil => simp [pureAll, hd]
  | cons e r ih =>
    rw [pureAll, Bool.and_eq_true] at h
    rw [List.cons_append, pureAll, h.1, ih h.2]
    rfl
theorem pure_drop : ∀ {r : List PyData}, pureAll r = true → pureAll r.dropLast = true
  | [], _ => rfl
  | [d], _ => rfl
  | d :: e :: r, h => by
    rw [pureAll, Bool.and_eq_true] at h
    show pureAll (d :: (e :: r).dropLast) = true
    rw [pureAll, h.1, pure_drop h.2]
    rfl
theorem pwf_step {m m' : PM} {w : Str} (h : PWf m) (e : pstep m w = some m') : PWf m' := by
  obtain ⟨l, t, p⟩ := h
  unfold pstep at e
  split at e
  · split at e
    · cases e
    · split at e
      · rename_i r rs er
        cases e
        rw [er] at l p
        refine ⟨by simpa using l, fun _ => ⟨_, _, rfl, by simp⟩, fun x hx => ?_⟩
        rcases List.mem_cons.mp hx with rfl | hx
        · exact pure_snoc (p r (List.mem_cons_self)) rfl
        · exact p x (List.mem_cons_of_mem _ hx)
      · cases e
  · split at e
    · rename_i hw
      split at e
      · split at e
        · rename_i r rs er
          cases e
          rw [er] at l p
          refine ⟨by simp at l ⊢; exact l, fun z => ?_, fun x hx => ?_⟩
          · rw [hw] at z
            have : ended "(" = true := z
            exact absurd this (by decide)
          · rcases List.mem_cons.mp hx with rfl | hx
            · rfl
            · rcases List.mem_cons.mp hx with rfl | hx
              · exact pure_drop (p r (List.mem_cons_self))
              · exact p x (List.mem_cons_of_mem _ hx)
        · cases e
      · cases e
    · split at e
      · rename_i he
        split at e
        · cases e
        · rename_i hd hs eh
          split at e
          · split at e
            · rename_i r r2 rs er
              cases e
              rw [er, eh] at l
              rw [er] at p
              refine ⟨by simp at l ⊢; omega, fun _ => ⟨_, _, rfl, by simp⟩, fun x hx => ?_⟩
              rcases List.mem_cons.mp hx with rfl | hx
              · refine pure_snoc (p r2 (List.mem_cons_of_mem _ List.mem_cons_self)) ?_
                show pureAll (.str hd :: r) = true
                rw [pureAll, p r List.mem_cons_self]
                rfl
              · exact p x (List.mem_cons_of_mem _ (List.mem_cons_of_mem _ hx))
            · cases e
          · cases e
            exact ⟨l, fun _ => t he, p⟩
      · cases e
theorem pwf0 : PWf pm0 := ⟨rfl, fun z => absurd z (by decide), fun r hr => by
  rw [List.mem_singleton.mp hr]
  rfl⟩
end K13
/-! parsed. -/
namespace K13
open PySem PySem.Spec PyProof.Rows L2 Kx
theorem at_last {α : Type} (l : List α) (x : α) : atI (l ++ [x]) (-1) = some x := by
  unfold atI ixN
  have h1 : ¬ (0 : Int) ≤ -1 := by decide
  rw [if_neg h1]
  have h2 : -((l ++ [x]).length : Int) ≤ -1 := by
    rw [List.length_append, List.length_singleton]
    omega
  rw [if_pos h2]
  have h3 : (-1 + ((l ++ [x]).length : Int)).toNat = l.length := by
    rw [List.length_append, List.length_singleton]
    omega
  show (l ++ [x])[(-1 + ((l ++ [x]).length : Int)).toNat]? = some x
  rw [h3]
  simp
theorem in_two (x : Str) : (!inV (.str x) [.str "(", .str ","]) = ended x := by
  unfold ended
  congr 1
  show (((("(" : Str)) == x) || ((("," : Str) == x) || false)) = _
  rw [Bool.or_false, Bool.eq_iff_iff]
  simp only [Bool.or_eq_true, beq_iff_eq, decide_eq_true_eq]
  exact ⟨fun h => h.imp Eq.symm Eq.symm, fun h => h.imp Eq.symm Eq.symm⟩
/-- the rows at their lists -/
def RowsOk (K : PySem.W.Frag) (H : Hp) : List Addr → List (List PyData) → Prop
  | [], [] => True
  | a :: as, r :: rs => (∃ us, H a = some (.lst us) ∧ DxAll K H us r) ∧ RowsOk K H as rs
  | _, _ => False
theorem RowsOk.len {K : PySem.W.Frag} {H : Hp} : ∀ {as : List Addr} {rs : List (List PyData)}, RowsOk K H as rs → as.length = rs.length
  | [], [], _ => rfl
  | _ :: _, _ :: _, h => congrArg Nat.succ (RowsOk.len h.2)
  | [], _ :: _, h => h.elim
  | _ :: _, [], h => h.elim
theorem RowsOk.up {K : PySem.W.Frag} {H H' : Hp} (e : Same H H') : ∀ {as : List Addr} {rs : List (List PyData)}, RowsOk K H as rs → RowsOk K H' as rs
  | [], [], _ => trivial
  | _ :: _, _ :: _, ⟨⟨us, h1, h2⟩, h3⟩ => ⟨⟨us, e _ _ h1, h2.up e⟩, RowsOk.up e h3⟩
  | [], _ :: _, h => h.elim
  | _ :: _, [], h => h.elim
/-- another list changes -/
theorem RowsOk.off {K : PySem.W.Frag} {H : Hp} {D : Addr} {xs ys : List V} (e : H D = some (.lst xs)) : ∀ {as : List Addr} {rs : List (List PyData)}, (∀ r, r ∈ rs → pureAll r = true) → D ∉ as → RowsOk K H as rs → RowsOk K (upd H D (.lst ys)) as rs
  | [], [], _, _, _ => trivial
  | a :: as, r :: rs, p, n, ⟨⟨us, h1, h2⟩, h3⟩ => by
    rw [List.mem_cons, not_or] at n
    exact ⟨⟨us, by rw [upd_ne (Ne.symm n.1)]; exact h1, DxAll.ts (Tups.lst e) r us (p r List.mem_cons_self) h2⟩, RowsOk.off e (fun r hr => p r (List.mem_cons_of_mem _ hr)) n.2 h3⟩
  | [], _ :: _, _, _, h => h.elim
  | _ :: _, [], _, _, h => h.elim
theorem RowsOk.at {K : PySem.W.Frag} {H : Hp} : ∀ {as : List Addr} {rs : List (List PyData)} {a : Addr}, RowsOk K H as rs → a ∈ as → ∃ us, H a = some (.lst us)
  | a0 :: as, r :: rs, a, ⟨⟨us, h1, _⟩, h3⟩, h => by
    rcases List.mem_cons.mp h with rfl | h
    · exact ⟨us, h1⟩
    · exact RowsOk.at h3 h
  | [], _, _, _, h => nomatch h
  | _ :: _, [], _, h, _ => h.elim
theorem alpha_ended {x : Str} (h : Txt.isalpha x = true) : ended x = true := by
  unfold ended
  rw [Bool.not_eq_true', Bool.or_eq_false_iff, decide_eq_false_iff_not, decide_eq_false_iff_not]
  refine ⟨fun e => ?_, fun e => ?_⟩
  · rw [e] at h
    exact absurd h (by decide +kernel)
  · rw [e] at h
    exact absurd h (by decide +kernel)
theorem dx_drop {K : PySem.W.Frag} {H : Hp} : ∀ {us : List V} {ds : List PyData}, DxAll K H us ds → DxAll K H us.dropLast ds.dropLast
  | _, _, .nil => .nil
  | _, _, .cons _ .nil => .nil
  | _, _, .cons a (.cons b t) => .cons a (dx_drop (.cons b t))
section
variable {P : Program} {w : World} {K : PySem.W.Frag} {mg : Str → Option Value} {base : Heap}
def spParsed (K : PySem.W.Frag) : Sp := fun vs H Q _ => ∃ (a : Addr) (xs : List Str), vs = [.ref a] ∧ H a = some (.lst (xs.map V.str)) ∧ xs.length ≤ 5000 ∧ (parseD xs = none → ∀ H', Same H H' → Q .non H') ∧
  ∀ d, parseD xs = some d → ∀ x H', Same H H' → Dx K H' x d → Q x H'
/-- what stands between two words -/
structure Mid (K : PySem.W.Frag) (H H2 : Hp) (hl rl : Addr) (as : List Addr) (hs : List Str) (rs : List (List PyData)) : Prop where
  same : Same H H2
  hn : H hl = none
  rn : H rl = none
  ne : hl ≠ rl
  eh : H2 hl = some (.lst (hs.reverse.map V.str))
  er : H2 rl = some (.lst (as.reverse.map V.ref))
  rows : RowsOk K H2 as rs
  nd : as.Nodup
  offh : hl ∉ as
  offr : rl ∉ as
  new : ∀ a, a ∈ as → H a = none
  pure : ∀ r, r ∈ rs → pureAll r = true
section
variable {H H2 H3 : Hp} {hl rl : Addr} {as : List Addr} {hs : List Str} {rs : List (List PyData)}
theorem Mid.up (m : Mid K H H2 hl rl as hs rs) (e : Same H2 H3) : Mid K H H3 hl rl as hs rs :=
  { m with same := m.same.trans e, eh := e _ _ m.eh, er := e _ _ m.er, rows := m.rows.up e }
/-- the heads change -/
theorem Mid.heads (m : Mid K H H2 hl rl as hs rs) (hs' : List Str) : Mid K H (upd H2 hl (.lst (hs'.reverse.map V.str))) hl rl as hs' rs :=
  { m with
    same := fun c o hc => by
      rw [upd_ne (ne_of_none hc m.hn)]
      exact m.same c o hc
    eh := upd_same
    er := by
      rw [upd_ne m.ne.symm]
      exact m.er
    rows := m.rows.off m.eh m.pure m.offh }
/-- the last row changes -/
theorem Mid.top {a : Addr} {r r' : List PyData} {us us' : List V} (m : Mid K H H2 hl rl (a :: as) hs (r :: rs)) (e : H2 a = some (.lst us)) (d : DxAll K (upd H2 a (.lst us')) us' r') (p : pureAll r' = true) : Mid K H (upd H2 a (.lst us')) hl rl (a :: as) hs (r' :: rs) :=
  { m with
    same := fun c o hc => by
      rw [upd_ne (ne_of_none hc (m.new a List.mem_cons_self))]
      exact m.same c o hc
    eh := by
      rw [upd_ne (fun z => m.offh (by rw [z]; exact List.mem_cons_self))]
      exact m.eh
    er := by
      rw [upd_ne (fun z => m.offr (by rw [z]; exact List.mem_cons_self))]
      exact m.er
    rows := ⟨⟨us', upd_same, d⟩, RowsOk.off e (fun r hr => m.pure r (List.mem_cons_of_mem _ hr)) (List.nodup_cons.mp m.nd).1 m.rows.2⟩
    pure := fun x hx => by
      rcases List.mem_cons.mp hx with rfl | hx
      · exact p
      · exact m.pure x (List.mem_cons_of_mem _ hx) }
/-- a row more -/
theorem Mid.more {q : Addr} (m : Mid K H H2 hl rl as hs rs) (nq : H2 q = none) : Mid K H (upd (upd H2 q (.lst [])) rl (.lst ((q :: as).reverse.map V.ref))) hl rl (q :: as) hs ([] :: rs) := by
  have m1 := m.up (same_put (o := .lst []) nq)
  have qr : q ≠ rl := (ne_of_none m.er nq).symm
  have qh : hl ≠ q := ne_of_none m.eh nq
  have qa : q ∉ as := fun z => by
    obtain ⟨us, e⟩ := m.rows.at z
    rw [e] at nq
    cases nq
  refine ⟨fun c o hc => ?_, m.hn, m.rn, m.ne, ?_, upd_same, ⟨⟨[], ?_, .nil⟩, m1.rows.off m1.er m.pure m.offr⟩, List.nodup_cons.mpr ⟨qa, m.nd⟩, ?_, ?_, fun a ha => ?_, fun r hr => ?_⟩
  · rw [upd_ne (ne_of_none hc m.rn)]
    exact m1.same c o hc
  · rw [upd_ne m.ne]
    exact m1.eh
  · rw [upd_ne qr, upd_same]
  · rw [List.mem_cons, not_or]
    exact ⟨qh, m.offh⟩
  · rw [List.mem_cons, not_or]
    exact ⟨qr.symm, m.offr⟩
  · rcases List.mem_cons.mp ha with rfl | ha
    · cases e : H a with
      | none => rfl
      | some o =>
        rw [m.same _ _ e] at nq
        cases nq
    · exact m.new a ha
  · rcases List.mem_cons.mp hr with rfl | hr
    · rfl
    · exact m.pure r hr
/-- the last row goes -/
theorem Mid.less {a : Addr} {r : List PyData} (m : Mid K H H2 hl rl (a :: as) hs (r :: rs)) : Mid K H (upd H2 rl (.lst (as.reverse.map V.ref))) hl rl as hs rs :=
  { m with
    same := fun c o hc => by
      rw [upd_ne (ne_of_none hc m.rn)]
      exact m.same c o hc
    eh := by
      rw [upd_ne m.ne]
      exact m.eh
    er := upd_same
    rows := RowsOk.off m.er (fun r hr => m.pure r (List.mem_cons_of_mem _ hr)) (fun z => m.offr (List.mem_cons_of_mem _ z)) m.rows.2
    nd := (List.nodup_cons.mp m.nd).2
    offh := fun z => m.offh (List.mem_cons_of_mem _ z)
    offr := fun z => m.offr (List.mem_cons_of_mem _ z)
    new := fun a ha => m.new a (List.mem_cons_of_mem _ ha)
    pure := fun r hr => m.pure r (List.mem_cons_of_mem _ hr) }
end
theorem pstep_last {m m' : PM} {x : Str} (e : pstep m x = some m') : m'.last = x := by
  unfold pstep at e
  split at e
  · split at e
    · cases e
    · split at e
      · cases e
        rfl
      · cases e
  · split at e
    · split at e
      · split at e
        · cases e
          rfl
        · cases e
      · cases e
    · split at e
      · split at e
        · cases e
        · split at e
          · split at e
            · cases e
              rfl
            · cases e
          · cases e
            rfl
      · cases e
theorem ok_parsed (T : Tx K mg) : FnOk P w K mg base CX0 1 T.aparsed T.dparsed ["words"] (spParsed K) := by
  have nd := sc_parsed.nd
  refine T.fparsed.ok sc_parsed (fun vs H Q E h => ?_) (fun cdv A outer s H vs Q E hr h => ?_)
  · obtain ⟨a, xs, rfl, _⟩ := h
    rfl
  · obtain ⟨a, xs, rfl, ha, lx, q0, q1⟩ := h
    refine ⟨_, (pss_cons (ps_set (i := 1) nd rfl (.inl rfl) (pe_lst pa_nil))
      (pss_cons (ps_set (i := 2) nd rfl (.inl rfl) (pe_lst (pa_cons (pe_lst pa_nil) pa_nil)))
      (pss_cons (ps_set (i := 3) nd rfl (.inl rfl) pe_str)
      (pss_cons (ps_for PassesOwn.never rfl (pi_list (pv 0)) (pg_name (i := 4) nd rfl (.inl rfl)) (pss_cons (ps_set (i := 5) nd rfl (.inl rfl) (pe_cmpR op_notIn_seq (pv 3) (pe_tup (pa_cons pe_str (pa_cons pe_str pa_nil))) (by rfl)))
      (C8.pss_cut (ps_if (pt_val (pe_bm0 PySem.F.plainAttrs_str PySem.F.slot_str_isalpha PySem.F.type_str_isalpha mt_isalpha (pv 4))) (pss_cons (ps_if (pt_truth (pv 5) (by intro _; rfl)) (pss_one (ps_ret pe_non)) pss_nil)
      (pss_one (ps_expr (pe_bm PySem.F.plainAttrs_list PySem.F.slot_list_append PySem.F.type_list_append mt_append (pe_ix ix_list (pv 2) (pe_un un_neg pe_int) (fun _ _ => rfl)) (pa_cons (pe_tup (pa_cons (pv 4) pa_nil)) pa_nil))))) (pss_one (ps_if (pt_cmpR op_eq (pv 4) pe_str (nomark _)) (pss_cons (ps_if (pt_not (pt_val (pe_bm0 PySem.F.plainAttrs_str PySem.F.slot_str_isalpha PySem.F.type_str_isalpha mt_isalpha (pv 3)))) (pss_one (ps_ret pe_non)) pss_nil)
      (pss_cons (ps_expr (pe_bm0 PySem.F.plainAttrs_list PySem.F.slot_list_pop PySem.F.type_list_pop mt_pop (pe_ix ix_list (pv 2) (pe_un un_neg pe_int) (fun _ _ => rfl))))
      (pss_cons (ps_expr (pe_bm PySem.F.plainAttrs_list PySem.F.slot_list_append PySem.F.type_list_append mt_append (pv 1) (pa_cons (pv 3) pa_nil)))
      (pss_one (ps_expr (pe_bm PySem.F.plainAttrs_list PySem.F.slot_list_append PySem.F.type_list_append mt_append (pv 2) (pa_cons (pe_lst pa_nil) pa_nil))))))) (pss_one (ps_if (PW.pt (pw_or (pt_not (pt_truth (pv 5) (by intro _; rfl))) (pw_or1 (pt_not (pt_truth (pv 1) (by intro _; rfl)))))) (pss_one (ps_ret pe_non)) (pss_one (ps_if (pt_cmpR op_eq (pv 4) pe_str (nomark _)) (pss_cons (ps_set (i := 6) nd rfl (.inl rfl) (pe_bm0 PySem.F.plainAttrs_list PySem.F.slot_list_pop PySem.F.type_list_pop mt_pop (pv 2)))
      (pss_one (ps_expr (pe_bm PySem.F.plainAttrs_list PySem.F.slot_list_append PySem.F.type_list_append mt_append (pe_ix ix_list (pv 2) (pe_un un_neg pe_int) (fun _ _ => rfl)) (pa_cons (pe_tup (pa_cons (pe_bm0 PySem.F.plainAttrs_list PySem.F.slot_list_pop PySem.F.type_list_pop mt_pop (pv 1)) (StX.pa_star (pv 6) pa_nil))) pa_nil))))) pss_nil)))))))
      (pss_one (ps_set (i := 3) nd rfl (.inl rfl) (pv 4))))))
      (pss_one (ps_ret (pe_ifExp (PW.pt (pw_and (pt_cmpR op_notIn_seq (pv 3) (pe_tup (pa_cons pe_str (pa_cons pe_str pa_nil))) (by rfl)) (pw_and1 (pt_not (pt_truth (pv 1) (by intro _; rfl)))))) (pe_ix ix_list (pe_ix ix_list (pv 2) pe_int (fun _ _ => rfl)) pe_int (fun _ _ => rfl)) pe_non))))))), ?_⟩
    refine ⟨Nat.zero_le _, fun hl nhl => ⟨Nat.zero_le _, fun r0 nr0 => ⟨(by show 1 ≤ sizeLine; decide), fun rl nrl => ?_⟩⟩⟩
    have big : ∀ {n : Nat}, n ≤ 200000 → n < sizeLine := fun h => Nat.lt_of_le_of_lt h (by decide)
    have s1 := same_put (o := .lst []) nhl
    have s2 := same_put (o := .lst []) nr0
    have s3 := same_put (o := .lst [.ref r0]) nrl
    have free : ∀ {G : Hp} {b : Addr}, Same H G → G b = none → H b = none := fun sG e => by
      cases z : H _ with
      | none => rfl
      | some o =>
        rw [sG _ _ z] at e
        cases e
    have start : Mid K H (upd (upd (upd H hl (.lst [])) r0 (.lst [])) rl (.lst [.ref r0])) hl rl [r0] [] [[]] :=
      { same := s1.trans (s2.trans s3)
        hn := nhl
        rn := free (s1.trans s2) nrl
        ne := ne_of_none (s2 _ _ upd_same) nrl
        eh := s3 _ _ (s2 _ _ upd_same)
        er := upd_same
        rows := ⟨⟨[], s3 _ _ upd_same, .nil⟩, trivial⟩
        nd := List.nodup_cons.mpr ⟨fun z => (nomatch z), List.nodup_nil⟩
        offh := fun z => ne_of_none upd_same nr0 (List.mem_singleton.mp z)
        offr := fun z => (ne_of_none upd_same nrl) (List.mem_singleton.mp z).symm
        new := fun a ha => by
          rw [List.mem_singleton.mp ha]
          exact free s1 nr0
        pure := fun r hr => by
          rw [List.mem_singleton.mp hr]
          rfl }
    have sqa : ∀ {G : Hp}, Same H G → SqL K G a (xs.map V.str) := fun sG => .inl (.inl (sG _ _ ha))
    refine ⟨_, rfl, a, rfl, ⟨_, sqa start.same⟩, for_list (K := K) (a := a) (xs := xs.map V.str) (fun i σ H2 => ∃ y4 y5 y6 as hs rs last, σ = [some (.ref a), some (.ref hl), some (.ref rl), some (.str last), y4, y5, y6] ∧ Mid K H H2 hl rl as hs rs ∧ PWf ⟨hs, rs, last⟩ ∧ prun (xs.take i) pm0 = some ⟨hs, rs, last⟩ ∧ hs.length ≤ i ∧ ∀ r, r ∈ rs → r.length ≤ i)
      ⟨none, none, none, [r0], [], [[]], "(", rfl, start, pwf0, rfl, Nat.le_refl _, fun r hr => by rw [List.mem_singleton.mp hr]; exact Nat.le_refl _⟩ (fun i σ H2 _ h => by obtain ⟨_, _, _, _, _, _, _, _, m, _⟩ := h; exact sqa m.same) ?_ ?_⟩
    · rintro i y σ H2 hi ⟨y4, y5, y6, as, hs, rs, last, rfl, md, wf, run, fh, fr⟩
      rw [List.getElem?_map] at hi
      obtain ⟨x, hx, rfl⟩ := Option.map_eq_some_iff.mp hi
      have lti : i < xs.length := (List.getElem?_eq_some_iff.mp hx).1
      have run1 : prun (xs.take (i + 1)) pm0 = pstep ⟨hs, rs, last⟩ x := by
        rw [List.take_add_one, hx]
        show prun (xs.take i ++ [x]) pm0 = _
        rw [prun_snoc, run]
        rfl
      have bad : pstep ⟨hs, rs, last⟩ x = none → ∀ H', Same H H' → Q .non H' := fun e => by
        refine q0 ?_
        have := prun_none (xs.take (i + 1)) (xs.drop (i + 1)) pm0 (by rw [run1, e])
        rw [List.take_append_drop] at this
        unfold parseD
        rw [this]
        rfl
      -- ended
      refine ⟨_, rfl, (by show 2 ≤ sizeLine; decide), fun p np => ⟨p, _, rfl, .inr (SqT.of upd_same), rfl, rfl, ?_⟩⟩
      have md := md.up (same_put (o := .tup [.str "(", .str ","]) np)
      generalize upd H2 p (.tup [.str "(", .str ","]) = H3 at md ⊢
      show tSeq _ _ _ _ _
      rw [show (if true = true then !inV (.str last) [.str "(", .str ","] else inV (.str last) [.str "(", .str ","]) = ended last from in_two last]
      refine ⟨fun σ' H' => ∃ as' m' y6', σ' = [some (.ref a), some (.ref hl), some (.ref rl), some (.str last), some (.str x), some (.bl (ended last)), y6'] ∧ Mid K H H' hl rl as' m'.hs m'.rs ∧ pstep ⟨hs, rs, last⟩ x = some m' ∧ m'.hs.length ≤ i + 1 ∧ ∀ r, r ∈ m'.rs → r.length ≤ i + 1, ?_, ?_⟩
      · obtain ⟨r, rs', ers⟩ : ∃ r rs', rs = r :: rs' := by
          have := wf.len
          cases rs with
          | nil => simp at this
          | cons r rs' => exact ⟨r, rs', rfl⟩
        subst ers
        obtain ⟨a1, as', eas⟩ : ∃ a1 as', as = a1 :: as' := by
          have := md.rows.len
          cases as with
          | nil => simp at this
          | cons a1 as' => exact ⟨a1, as', rfl⟩
        subst eas
        obtain ⟨⟨us, ea1, dr⟩, _⟩ := id md.rows
        have lus := dr.length
        have fr0 := fr r List.mem_cons_self
        have eras : (a1 :: as').reverse.map V.ref = as'.reverse.map V.ref ++ [V.ref a1] := by simp
        have atl : atI ((a1 :: as').reverse.map V.ref) (-1) = some (.ref a1) := by
          rw [eras]
          exact at_last _ _
        have las : as'.length ≤ 5001 := by
          have h1 := md.rows.len
          have h2 := wf.len
          simp only [List.length_cons] at h1 h2
          have h3 : rs'.length = hs.length := by
            have : (⟨hs, r :: rs', last⟩ : PM).rs.length = hs.length + 1 := wf.len
            simpa using this
          omega
        refine ⟨_, rfl, rfl, x, rfl, rfl, trivial, _, rfl, ite2 (fun al => ?_) (fun al => ?_)⟩
        · -- a word
          refine ⟨_, rfl, _, rfl, ite2 (fun en => ?_) (fun en => ?_)⟩
          · exact bad (by unfold pstep; rw [if_pos al, if_pos en]) _ md.same
          · refine ⟨_, rfl, 1, rfl, rl, _, -1, .ref a1, rfl, rfl, .inl (.inl md.er), atl, .inl ⟨rfl, us, .inl (.inl ea1)⟩, _, rfl, (by show 1 ≤ sizeLine; decide), fun q nq => ?_⟩
            have sq := same_put (o := .tup [.str x]) nq
            have md2 := md.up sq
            have ea2 := sq _ _ ea1
            refine ⟨a1, us, .ref q, rfl, rfl, ea2, big (by omega), a1 :: as', ⟨hs, (r ++ [.tuple [.str x]]) :: rs', x⟩, _, rfl, md2.top ea2 ?_ (pure_snoc (md.pure r List.mem_cons_self) rfl), by unfold pstep; rw [if_pos al, if_neg en], Nat.le_succ_of_le fh, fun z hz => ?_⟩
            · have qa : q ≠ a1 := (ne_of_none ea1 nq).symm
              exact DxAll.append (DxAll.ts (Tups.lst ea2) _ _ (md.pure r List.mem_cons_self) (dr.up sq)) (.cons (.tup (by rw [upd_ne qa, upd_same]) (.cons (.str x) .nil)) .nil)
            · rcases List.mem_cons.mp hz with rfl | hz
              · rw [List.length_append]
                exact Nat.succ_le_succ fr0
              · exact Nat.le_succ_of_le (fr z (List.mem_cons_of_mem _ hz))
        · refine ⟨_, rfl, rfl, _, rfl, ite2 (fun ew => ?_) (fun ew => ?_)⟩
          · -- an opening one
            have ex : x = "(" := V.str.inj (of_decide_eq_true ew)
            refine ⟨_, rfl, rfl, last, rfl, rfl, trivial, _, rfl, ?_⟩
            cases la : Txt.isalpha last with
            | false => exact iteT (bad (by unfold pstep; rw [if_neg al, if_pos ex, if_neg (by rw [la]; decide)]) _ md.same)
            | true =>
              have ne0 : r ≠ [] := by
                obtain ⟨r2, rs2, e, n⟩ := wf.top (alpha_ended la)
                cases e
                exact n
              obtain ⟨us0, y0, eus⟩ : ∃ us0 y0, us = us0 ++ [y0] := by
                rcases snoc_or us with e | e
                · rw [e] at lus
                  exact absurd (List.eq_nil_of_length_eq_zero lus.symm) ne0
                · exact e
              refine iteF ⟨_, rfl, 1, rfl, rl, _, -1, .ref a1, rfl, rfl, .inl (.inl md.er), atl, .inl ⟨rfl, us, .inl (.inl ea1)⟩, a1, us, y0, rfl, rfl, ea1, by rw [eus]; simp, ?_⟩
              have md2 := md.top (us' := us.dropLast) ea1 (dx_drop (DxAll.ts (Tups.lst ea1) _ _ (md.pure r List.mem_cons_self) dr)) (pure_drop (md.pure r List.mem_cons_self))
              generalize upd H3 a1 (.lst us.dropLast) = H4 at md2 ⊢
              refine ⟨_, rfl, .inl ⟨rfl, _, .inl (.inl md2.eh)⟩, _, rfl, hl, _, .str last, rfl, rfl, md2.eh, big (by rw [List.length_map, List.length_reverse]; omega), ?_⟩
              have md3 := md2.heads (last :: hs)
              rw [show (last :: hs).reverse.map V.str = hs.reverse.map V.str ++ [V.str last] by simp] at md3
              generalize upd H4 hl (.lst (hs.reverse.map V.str ++ [V.str last])) = H5 at md3 ⊢
              refine ⟨_, rfl, .inl ⟨rfl, _, .inl (.inl md3.er)⟩, Nat.zero_le _, fun q nq => ?_⟩
              have md4 := md3.more nq
              rw [show (q :: a1 :: as').reverse.map V.ref = (a1 :: as').reverse.map V.ref ++ [V.ref q] by simp] at md4
              refine ⟨rl, _, .ref q, rfl, rfl, same_put nq _ _ md3.er, big (by rw [List.length_map, List.length_reverse, List.length_cons]; omega), q :: a1 :: as', ⟨last :: hs, [] :: r.dropLast :: rs', x⟩, _, rfl, md4, by unfold pstep; rw [if_neg al, if_pos ex, if_pos la], Nat.succ_le_succ fh, fun z hz => ?_⟩
              rcases List.mem_cons.mp hz with rfl | hz
              · exact Nat.zero_le _
              · rcases List.mem_cons.mp hz with rfl | hz
                · rw [List.length_dropLast]
                  omega
                · exact Nat.le_succ_of_le (fr z (List.mem_cons_of_mem _ hz))
          · have ex : x ≠ "(" := fun z => ew (decide_eq_true (by rw [z]))
            refine ⟨_, rfl, _, rfl, ?_⟩
            cases en : ended last with
            | false => exact iteT (bad (by unfold pstep; rw [if_neg al, if_neg ex, if_neg (by rw [en]; decide)]) _ md.same)
            | true =>
              refine iteF ⟨_, rfl, _, .inl ⟨_, .inl (.inl md.eh), rfl⟩, ?_⟩
              cases hs with
              | nil => exact iteT (bad (by unfold pstep; rw [if_neg al, if_neg ex, if_pos en]) _ md.same)
              | cons h hs' =>
                rw [show (!((h :: hs').reverse.map V.str).isEmpty) = true by simp]
                refine iteF ⟨_, rfl, rfl, _, rfl, ite2 (fun ec => ?_) (fun ec => ?_)⟩
                · -- a closing one
                  have ec' : x = ")" := V.str.inj (of_decide_eq_true ec)
                  obtain ⟨r2, rs2, ers⟩ : ∃ r2 rs2, rs' = r2 :: rs2 := by
                    have := wf.len
                    cases rs' with
                    | nil => simp at this
                    | cons r2 rs2 => exact ⟨r2, rs2, rfl⟩
                  subst ers
                  obtain ⟨a2, as2, eas⟩ : ∃ a2 as2, as' = a2 :: as2 := by
                    have := md.rows.len
                    cases as' with
                    | nil => simp at this
                    | cons a2 as2 => exact ⟨a2, as2, rfl⟩
                  subst eas
                  have md2 := md.less
                  have ea1' : (upd H3 rl (.lst ((a2 :: as2).reverse.map V.ref))) a1 = some (.lst us) := by
                    rw [upd_ne (fun z => md.offr (by rw [← z]; exact List.mem_cons_self))]
                    exact ea1
                  have dr' : DxAll K (upd H3 rl (.lst ((a2 :: as2).reverse.map V.ref))) us r := DxAll.ts (Tups.lst md.er) _ _ (md.pure r List.mem_cons_self) dr
                  refine ⟨_, rfl, .inl ⟨rfl, _, .inl (.inl md.er)⟩, rl, _, .ref a1, rfl, rfl, md.er, by rw [eras]; simp, ?_⟩
                  rw [eras, List.dropLast_concat]
                  have off1 : hl ≠ a1 := fun z => md.offh (by rw [z]; exact List.mem_cons_self)
                  have n12 : a1 ≠ a2 := fun z => (List.nodup_cons.mp md.nd).1 (by rw [z]; exact List.mem_cons_self)
                  generalize upd H3 rl (.lst ((a2 :: as2).reverse.map V.ref)) = H4 at md2 ea1' dr' ⊢
                  obtain ⟨⟨us2, ea2, dr2⟩, _⟩ := id md2.rows
                  have lus2 := dr2.length
                  have fr2 := fr r2 (List.mem_cons_of_mem _ List.mem_cons_self)
                  have atl2 : atI ((a2 :: as2).reverse.map V.ref) (-1) = some (.ref a2) := by
                    rw [show (a2 :: as2).reverse.map V.ref = as2.reverse.map V.ref ++ [V.ref a2] by simp]
                    exact at_last _ _
                  have md3 := md2.heads hs'
                  have ea1'' : (upd H4 hl (.lst (hs'.reverse.map V.str))) a1 = some (.lst us) := by
                    rw [upd_ne off1.symm]
                    exact ea1'
                  have ea2'' : (upd H4 hl (.lst (hs'.reverse.map V.str))) a2 = some (.lst us2) := by
                    rw [upd_ne (fun z => md2.offh (by rw [← z]; exact List.mem_cons_self))]
                    exact ea2
                  have dr'' := DxAll.ts (Tups.lst (ys := hs'.reverse.map V.str) md2.eh) _ _ (md.pure r List.mem_cons_self) dr'
                  have dr2'' := DxAll.ts (Tups.lst (ys := hs'.reverse.map V.str) md2.eh) _ _ (md2.pure r2 List.mem_cons_self) dr2
                  have ehh : (h :: hs').reverse.map V.str = hs'.reverse.map V.str ++ [V.str h] := by simp
                  refine ⟨_, rfl, 1, rfl, rl, _, -1, .ref a2, rfl, rfl, .inl (.inl md2.er), atl2, .inl ⟨rfl, us2, .inl (.inl ea2)⟩, _, rfl, .inl ⟨rfl, _, .inl (.inl md2.eh)⟩, hl, _, .str h, rfl, rfl, md2.eh, by rw [ehh]; simp, ?_⟩
                  rw [ehh, List.dropLast_concat]
                  generalize upd H4 hl (.lst (hs'.reverse.map V.str)) = H5 at md3 ea1'' ea2'' dr'' dr2'' ⊢
                  refine ⟨_, rfl, a1, us, rfl, .inr (.inl (.inl ea1'')), Nat.le_of_lt (big (by rw [List.length_cons, List.append_nil]; omega)), fun q nq => ?_⟩
                  rw [List.append_nil]
                  have sq := same_put (o := .tup (.str h :: us)) nq
                  have md4 := md3.up sq
                  have ea4 := sq _ _ ea2''
                  have q2 : q ≠ a2 := (ne_of_none ea2'' nq).symm
                  have pr := md.pure r List.mem_cons_self
                  have pt : pureD (.tuple (.str h :: r)) = true := by
                    show pureAll (.str h :: r) = true
                    rw [pureAll, pr]
                    rfl
                  refine ⟨a2, us2, .ref q, rfl, rfl, ea4, big (by omega), a2 :: as2, ⟨hs', (r2 ++ [.tuple (.str h :: r)]) :: rs2, x⟩, _, rfl, md4.top ea4 ?_ (pure_snoc (md2.pure r2 List.mem_cons_self) pt), ?_, ?_, fun z hz => ?_⟩
                  · exact DxAll.append (DxAll.ts (Tups.lst ea4) _ _ (md2.pure r2 List.mem_cons_self) (dr2''.up sq)) (.cons (.tup (by rw [upd_ne q2, upd_same]) (.cons (.str h) (DxAll.ts (Tups.lst ea4) _ _ pr (dr''.up sq)))) .nil)
                  · unfold pstep
                    rw [if_neg al, if_neg ex, if_pos en]
                    exact if_pos ec'
                  · rw [List.length_cons] at fh
                    show hs'.length ≤ i + 1
                    omega
                  · rcases List.mem_cons.mp hz with rfl | hz
                    · rw [List.length_append]
                      exact Nat.succ_le_succ fr2
                    · exact Nat.le_succ_of_le (fr z (List.mem_cons_of_mem _ (List.mem_cons_of_mem _ hz)))
                · have ec' : x ≠ ")" := fun z => ec (decide_eq_true (by rw [z]))
                  refine ⟨a1 :: as', ⟨h :: hs', r :: rs', x⟩, _, rfl, md, by unfold pstep; rw [if_neg al, if_neg ex, if_pos en]; exact if_neg ec', Nat.le_succ_of_le fh, fun z hz => Nat.le_succ_of_le (fr z hz)⟩
      · rintro σ' H' ⟨as', m', y6', rfl, md', st, fh', fr'⟩
        refine ⟨_, rfl, some (.str x), some (.bl (ended last)), y6', as', m'.hs, m'.rs, m'.last, ?_, md', pwf_step wf st, by rw [run1, st], fh', fr'⟩
        rw [pstep_last st]
        rfl
    · rintro σ H2 ⟨y4, y5, y6, as, hs, rs, last, rfl, md, wf, run, fh, fr⟩
      rw [List.length_map, List.take_length] at run
      refine ⟨_, rfl, (by show 2 ≤ sizeLine; decide), fun p np => ⟨p, _, rfl, .inr (SqT.of upd_same), rfl, rfl, _, rfl, ?_⟩⟩
      have md := md.up (same_put (o := .tup [.str "(", .str ","]) np)
      generalize upd H2 p (.tup [.str "(", .str ","]) = H3 at md ⊢
      rw [show (if true = true then !inV (.str last) [.str "(", .str ","] else inV (.str last) [.str "(", .str ","]) = ended last from in_two last]
      have res : parseD xs = pout ⟨hs, rs, last⟩ := by
        unfold parseD
        rw [run]
        rfl
      cases en : ended last with
      | false =>
        refine iteF (q0 ?_ _ md.same)
        rw [res]
        exact if_neg (fun z => by rw [en] at z; exact absurd z.1 (by decide))
      | true =>
        refine iteT ⟨_, rfl, _, .inl ⟨_, .inl (.inl md.eh), rfl⟩, ?_⟩
        cases hs with
        | cons h hs' =>
          rw [show (!((h :: hs').reverse.map V.str).isEmpty) = true by simp]
          refine iteF (q0 ?_ _ md.same)
          rw [res]
          exact if_neg (fun z => by cases z.2)
        | nil =>
          obtain ⟨r, rs', e, ne0⟩ := wf.top en
          have e : rs = r :: rs' := e
          subst e
          have l1 := wf.len
          have e2 : rs' = [] := List.eq_nil_of_length_eq_zero (by simpa using l1)
          subst e2
          obtain ⟨d, r', er⟩ : ∃ d r', r = d :: r' := by
            cases r with
            | nil => exact absurd rfl ne0
            | cons d r' => exact ⟨d, r', rfl⟩
          subst er
          have ll := md.rows.len
          obtain ⟨a1, ea⟩ : ∃ a1, as = [a1] := by
            match as, ll with
            | [a1], _ => exact ⟨a1, rfl⟩
          subst ea
          obtain ⟨⟨us, e1, dr⟩, _⟩ := id md.rows
          cases dr with
          | @cons v us' _ _ hv _ =>
          refine iteT ⟨_, rfl, rl, _, 0, .ref a1, rfl, rfl, .inl (.inl md.er), atI_nat (j := 0) rfl, a1, _, 0, v, rfl, rfl, .inl (.inl e1), atI_nat (j := 0) rfl, q1 d ?_ v _ md.same hv⟩
          rw [res]
          exact if_pos ⟨en, rfl⟩
end
end K13
/-! What the machine reads: the words of a datum, and nothing else. -/
namespace K13
open PySem PySem.Spec PyProof.Rows L2 Kx
mutual
/-- the words of a datum -/
def tk : PyData → List Str
  | .tuple (d :: ds) => tS (nmC d) :: tkA ds
  | _ => []
def tkA : List PyData → List Str
  | [] => []
  | e :: es => "(" :: (tk e ++ (tkM es ++ [((")" : Str))]))
def tkM : List PyData → List Str
  | [] => []
  | e :: es => "," :: (tk e ++ tkM es)
end
theorem catS_app (a b : List Str) : catS (a ++ b) = catS a ++ catS b := by simp [catS]
theorem catS_cons (a : Str) (b : List Str) : catS (a :: b) = a.cps.toList ++ catS b := by simp [catS]
mutual
theorem cat_tk : ∀ d : PyData, catS (tk d) = tx d
  | .none => rfl
  | .bool _ => rfl
  | .int _ => rfl
  | .str _ => rfl
  | .list _ => rfl
  | .dict _ => rfl
  | .tuple [] => rfl
  | .tuple (d :: ds) => by
    rw [tk, tx, catS_cons, cat_tkA ds]
    rfl
theorem cat_tkA : ∀ ds : List PyData, catS (tkA ds) = txA ds
  | [] => rfl
  | e :: es => by
    rw [tkA, txA, catS_cons, catS_app, catS_app, cat_tk e, cat_tkM es]
    rfl
theorem cat_tkM : ∀ ds : List PyData, catS (tkM ds) = txM ds
  | [] => rfl
  | e :: es => by
    rw [tkM, txM, catS_cons, catS_app, cat_tk e, cat_tkM es]
    rfl
end
/-- a row, commas between -/
def J : List PyData → List Str
  | [] => []
  | d :: ds => tk d ++ tkM ds
theorem tkM_app (a b : List PyData) : tkM (a ++ b) = tkM a ++ tkM b := by
  induction a with
  | nil => rfl
  | cons d a ih =>
    rw [List.cons_append, tkM, tkM, ih]
    simp
theorem J_snoc (r : List PyData) (d : PyData) : J (r ++ [d]) = J r ++ (if r = [] then [] else [(("," : Str))]) ++ tk d := by
  cases r with
  | nil => simp [J, tkM]
  | cons e r =>
    rw [if_neg (by simp)]
    show tk e ++ tkM (r ++ [d]) = tk e ++ tkM r ++ [(("," : Str))] ++ tk d
    rw [tkM_app, tkM, tkM]
    simp
theorem tk_tuple (h : Str) {r : List PyData} (n : r ≠ []) : tk (.tuple (.str h :: r)) = h :: "(" :: (J r ++ [((")" : Str))]) := by
  cases r with
  | nil => exact absurd rfl n
  | cons e r =>
    rw [tk, tkA]
    show tS h.cps.toList :: _ = _
    rw [tS_list]
    show _ = h :: "(" :: (tk e ++ tkM r ++ [((")" : Str))])
    simp
theorem tk_cell (h : Str) : tk (.tuple [.str h]) = [h] := by
  rw [tk]
  show [tS h.cps.toList] = _
  rw [tS_list]
/-- what stands ahead of the last row -/
def ahead : List Str → List (List PyData) → List Str
  | h :: hs, r :: rs => ahead hs rs ++ J r ++ (if r = [] then [] else [(("," : Str))]) ++ [h, (("(" : Str))]
  | _, _ => []
/-- the words so far -/
def soFar (m : PM) : List Str := match m.rs with
  | r :: rs => ahead m.hs rs ++ J r ++ (if m.last = "," then [(("," : Str))] else [])
  | [] => []
/-- the lowest row: none in it while a head waits -/
def low : List Str → List (List PyData) → Prop
  | [], [] => True
  | _ :: hs, r :: rs => (hs = [] → r = []) ∧ low hs rs
  | _, _ => False
structure Snd (m : PM) : Prop where
  row : ∃ r rs, m.rs = r :: rs ∧ low m.hs rs ∧ (m.hs = [] → r.length ≤ 1 ∧ m.last ≠ "," ∧ (m.last = "(" → r = [])) ∧ (ended m.last = true → r ≠ []) ∧ (m.last = "," → r ≠ []) ∧ (m.last = "(" → r = []) ∧ (Txt.isalpha m.last = true → ∃ r0, r = r0 ++ [.tuple [.str m.last]])
def okW (w : Str) : Prop := Txt.isalpha w = true ∨ w = "(" ∨ w = ")" ∨ w = ","
theorem sign_no : Txt.isalpha "(" = false ∧ Txt.isalpha ")" = false ∧ Txt.isalpha "," = false ∧ ended "(" = false ∧ ended ")" = true ∧ ended "," = false := by decide +kernel
theorem not_ended {x : Str} (h : ¬ ended x = true) : x = "(" ∨ x = "," := by
  unfold ended at h
  by_cases a : x = "("
  · exact .inl a
  · refine .inr (Classical.byContradiction fun b => h ?_)
    rw [decide_eq_false a, decide_eq_false b]
    rfl
theorem snd_step {m m' : PM} {w : Str} (hS : Snd m) (ok : okW w) (e : pstep m w = some m') : Snd m' ∧ soFar m' = soFar m ++ [w] := by
  obtain ⟨hs, rs, last⟩ := m
  obtain ⟨r, rs, e0, lo, one, en0, cm0, op0, al0⟩ := hS.row
  have e0 : _ = r :: rs := e0
  subst e0
  obtain ⟨n1, n2, n3, n4, n5, n6⟩ := sign_no
  unfold pstep at e
  by_cases al : Txt.isalpha w = true
  · rw [if_pos al] at e
    by_cases en : ended last = true
    · rw [if_pos en] at e
      cases e
    · rw [if_neg en] at e
      have e : some (PM.mk hs ((r ++ [.tuple [.str w]]) :: rs) w) = some m' := e
      cases e
      have wn : w ≠ "(" ∧ w ≠ "," := ⟨fun z => (by rw [z, n1] at al; cases al), fun z => (by rw [z, n3] at al; cases al)⟩
      refine ⟨⟨⟨_, _, rfl, lo, fun z => ⟨?_, wn.2, fun y => absurd y wn.1⟩, fun _ => by simp, fun y => absurd y wn.2, fun y => absurd y wn.1, fun _ => ⟨r, rfl⟩⟩⟩, ?_⟩
      · rcases not_ended en with z2 | z2
        · rw [(one z).2.2 z2]
          simp
        · exact absurd z2 (one z).2.1
      · show ahead hs rs ++ J (r ++ [.tuple [.str w]]) ++ (if w = "," then [(("," : Str))] else []) = ahead hs rs ++ J r ++ (if last = "," then [(("," : Str))] else []) ++ [w]
        rw [if_neg wn.2, J_snoc, tk_cell]
        rcases not_ended en with z2 | z2
        · rw [op0 z2, z2, if_pos rfl, if_neg (by decide)]
          simp
        · rw [if_neg (cm0 z2), if_pos z2]
          simp
  · rw [if_neg al] at e
    by_cases ew : w = "("
    · rw [if_pos ew] at e
      by_cases la : Txt.isalpha last = true
      · rw [if_pos la] at e
        have e : some (PM.mk (last :: hs) ([] :: r.dropLast :: rs) w) = some m' := e
        cases e
        obtain ⟨r0, er⟩ := al0 la
        have er : r = r0 ++ [.tuple [.str last]] := er
        subst er
        rw [List.dropLast_concat]
        have ln : last ≠ "," := fun z => by rw [z, n3] at la; cases la
        refine ⟨⟨⟨_, _, rfl, ⟨fun z => ?_, lo⟩, fun z => (by cases z), fun y => ?_, fun y => ?_, fun _ => rfl, fun y => ?_⟩⟩, ?_⟩
        · have := (one z).1
          rw [List.length_append, List.length_singleton] at this
          exact List.eq_nil_of_length_eq_zero (by omega)
        · have y : ended w = true := y
          rw [ew, n4] at y
          cases y
        · have y : w = "," := y
          rw [ew] at y
          exact absurd y (by decide)
        · have y : Txt.isalpha w = true := y
          exact absurd y al
        · show ahead hs rs ++ J r0 ++ (if r0 = [] then [] else [(("," : Str))]) ++ [last, (("(" : Str))] ++ [] ++ (if w = "," then [(("," : Str))] else []) = ahead hs rs ++ J (r0 ++ [.tuple [.str last]]) ++ (if last = "," then [(("," : Str))] else []) ++ [w]
          rw [if_neg ln, J_snoc, tk_cell, ew, if_neg (show ¬ (("(" : Str)) = "," by decide)]
          simp
      · rw [if_neg la] at e
        cases e
    · rw [if_neg ew] at e
      by_cases en : ended last = true
      · rw [if_pos en] at e
        have ln : last ≠ "," := fun z => by rw [z, n6] at en; cases en
        cases hs with
        | nil => cases e
        | cons h hs =>
          by_cases ec : w = ")"
          · have e : (if w = ")" then (match r :: rs with | r :: r2 :: rs => some (PM.mk hs ((r2 ++ [.tuple (.str h :: r)]) :: rs) w) | _ => none) else _) = some m' := e
            rw [if_pos ec] at e
            cases rs with
            | nil => cases e
            | cons r2 rs2 =>
              have e : some (PM.mk hs ((r2 ++ [.tuple (.str h :: r)]) :: rs2) w) = some m' := e
              cases e
              have nr := en0 en
              have lo2 : (hs = [] → r2 = []) ∧ low hs rs2 := lo
              have wo : w ≠ "(" ∧ w ≠ "," := by
                rw [ec]
                decide
              refine ⟨⟨⟨_, _, rfl, lo2.2, fun z => ⟨?_, wo.2, fun y => absurd y wo.1⟩, fun _ => by simp, fun y => absurd y wo.2, fun y => absurd y wo.1, fun y => absurd y al⟩⟩, ?_⟩
              · have z : hs = [] := z
                rw [lo2.1 z]
                exact Nat.le_refl _
              · show ahead hs rs2 ++ J (r2 ++ [.tuple (.str h :: r)]) ++ (if w = "," then [(("," : Str))] else []) = (ahead hs rs2 ++ J r2 ++ (if r2 = [] then [] else [(("," : Str))]) ++ [h, (("(" : Str))]) ++ J r ++ (if last = "," then [(("," : Str))] else []) ++ [w]
                rw [if_neg wo.2, if_neg ln, J_snoc, tk_tuple h nr, ec]
                simp
          · have e : (if w = ")" then _ else some (PM.mk (h :: hs) (r :: rs) w)) = some m' := e
            rw [if_neg ec] at e
            cases e
            have wc : w = "," := by
              rcases ok with z | z | z | z
              · exact absurd z al
              · exact absurd z ew
              · exact absurd z ec
              · exact z
            refine ⟨⟨⟨_, _, rfl, lo, fun z => (by cases z), fun y => ?_, fun _ => en0 en, fun y => absurd y ew, fun y => absurd y al⟩⟩, ?_⟩
            · exact en0 en
            · show ahead (h :: hs) rs ++ J r ++ (if w = "," then [(("," : Str))] else []) = ahead (h :: hs) rs ++ J r ++ (if last = "," then [(("," : Str))] else []) ++ [w]
              rw [if_pos wc, if_neg ln, wc]
              simp
      · rw [if_neg en] at e
        cases e
theorem run_snd : ∀ (ws : List Str) (m m' : PM), Snd m → (∀ w, w ∈ ws → okW w) → prun ws m = some m' → Snd m' ∧ soFar m' = soFar m ++ ws
  | [], m, m', h, _, e => by
    cases e
    exact ⟨h, by simp⟩
  | w :: ws, m, m', h, ok, e => by
    have e : (pstep m w).bind (prun ws) = some m' := e
    cases e1 : pstep m w with
    | none =>
      rw [e1] at e
      cases e
    | some m1 =>
      rw [e1] at e
      obtain ⟨h1, s1⟩ := snd_step h (ok w List.mem_cons_self) e1
      obtain ⟨h2, s2⟩ := run_snd ws m1 m' h1 (fun v hv => ok v (List.mem_cons_of_mem _ hv)) e
      exact ⟨h2, by rw [s2, s1]; simp⟩
theorem snd0 : Snd pm0 := ⟨⟨[], [], rfl, trivial, fun _ => ⟨Nat.zero_le _, by decide, fun _ => rfl⟩, fun z => absurd z (by decide), fun z => absurd z (by decide), fun _ => rfl, fun z => absurd z (by decide +kernel)⟩⟩
/-- the machine reads nothing but the words of what it gives -/
theorem parse_sound {ws : List Str} {d : PyData} (ok : ∀ w, w ∈ ws → okW w) (h : parseD ws = some d) : ws = tk d := by
  unfold parseD at h
  cases e : prun ws pm0 with
  | none =>
    rw [e] at h
    cases h
  | some m =>
    rw [e] at h
    have h : pout m = some d := h
    obtain ⟨hm, sf⟩ := run_snd ws pm0 m snd0 ok e
    have z : soFar pm0 = [] := by decide
    rw [z, List.nil_append] at sf
    obtain ⟨hs, rs, last⟩ := m
    obtain ⟨r, rs, e0, lo, one, en0, cm0, op0, al0⟩ := hm.row
    have e0 : _ = r :: rs := e0
    subst e0
    unfold pout at h
    by_cases c : ended last = true ∧ hs = []
    · rw [if_pos c] at h
      obtain ⟨c1, c2⟩ := c
      subst c2
      cases rs with
      | cons a b => exact lo.elim
      | nil =>
        obtain ⟨l1, lc, _⟩ := one rfl
        have ne := en0 c1
        match r, l1, ne, h with
        | [], _, ne, _ => exact absurd rfl ne
        | [d2], _, _, h =>
          have h : some d2 = some d := h
          cases h
          rw [← sf]
          show [] ++ (tk d ++ []) ++ (if last = "," then [(("," : Str))] else []) = tk d
          rw [if_neg lc]
          simp
        | _ :: _ :: _, l1, _, _ => simp at l1
    · rw [if_neg c] at h
      cases h
theorem nm_alpha {x : Str} (h : isNm x = true) : Txt.isalpha x = true := by
  have e := name_txt x
  have h2 : (decide (1 ≤ x.length) && x.cps.all letter) = true := by
    simp only [isNm, Bool.and_eq_true, decide_eq_true_eq] at h ⊢
    exact ⟨h.1.1, h.2⟩
  rw [h2] at e
  simp only [Bool.and_eq_true] at e
  exact e.2.1
theorem step_word {hs : List Str} {r : List PyData} {rs : List (List PyData)} {last x : Str} (a : Txt.isalpha x = true) (n : ended last = false) : pstep ⟨hs, r :: rs, last⟩ x = some ⟨hs, (r ++ [.tuple [.str x]]) :: rs, x⟩ := by
  unfold pstep
  rw [if_pos a, if_neg (by rw [n]; decide)]
mutual
theorem run_tk : ∀ (d : PyData) (hs : List Str) (r : List PyData) (rs : List (List PyData)) (last : Str), formedD d = true → ended last = false → ∃ l, ended l = true ∧ ∀ ws, prun (tk d ++ ws) ⟨hs, r :: rs, last⟩ = prun ws ⟨hs, (r ++ [d]) :: rs, l⟩
  | .none, _, _, _, _, h, _ => by cases h
  | .bool _, _, _, _, _, h, _ => by cases h
  | .int _, _, _, _, _, h, _ => by cases h
  | .str _, _, _, _, _, h, _ => by cases h
  | .list _, _, _, _, _, h, _ => by cases h
  | .dict _, _, _, _, _, h, _ => by cases h
  | .tuple [], _, _, _, _, h, _ => by cases h
  | .tuple (d :: []), hs, r, rs, last, h, n => by
    simp only [formedD, Bool.and_eq_true] at h
    cases d with
    | str x =>
      have a := nm_alpha (x := x) h.1.2
      refine ⟨x, alpha_ended a, fun ws => ?_⟩
      rw [tk_cell]
      show (pstep _ x).bind (prun ws) = _
      rw [step_word a n]
      rfl
    | _ => cases h.1.2
  | .tuple (d :: e :: es), hs, r, rs, last, h, n => by
    simp only [formedD, formedAll, Bool.and_eq_true] at h
    cases d with
    | str x =>
      have a := nm_alpha (x := x) h.1.2
      obtain ⟨l1, en1, r1⟩ := run_tk e (x :: hs) [] (r :: rs) "(" h.2.1 (by decide)
      obtain ⟨l2, en2, r2⟩ := run_tkM es x hs [e] (r :: rs) l1 h.2.2 en1
      refine ⟨")", by decide, fun ws => ?_⟩
      have ew : tk (.tuple (.str x :: e :: es)) ++ ws = x :: "(" :: (tk e ++ (tkM es ++ ((")" : Str) :: ws))) := by
        rw [tk_tuple x (by simp)]
        simp [J]
      rw [ew]
      show (pstep ⟨hs, r :: rs, last⟩ x).bind (prun _) = _
      rw [step_word a n]
      show (pstep ⟨hs, (r ++ [.tuple [.str x]]) :: rs, x⟩ "(").bind (prun _) = _
      have s2 : pstep ⟨hs, (r ++ [.tuple [.str x]]) :: rs, x⟩ "(" = some ⟨x :: hs, [] :: r :: rs, "("⟩ := by
        unfold pstep
        rw [if_neg (by rw [sign_no.1]; decide), if_pos rfl, if_pos a]
        show some (PM.mk (x :: hs) ([] :: (r ++ [PyData.tuple [PyData.str x]]).dropLast :: rs) "(") = _
        rw [List.dropLast_concat]
      rw [s2]
      show prun (tk e ++ (tkM es ++ ((")" : Str) :: ws))) ⟨x :: hs, [] :: r :: rs, "("⟩ = _
      rw [r1]
      show prun (tkM es ++ ((")" : Str) :: ws)) ⟨x :: hs, [e] :: r :: rs, l1⟩ = _
      rw [r2]
      show (pstep ⟨x :: hs, (e :: es) :: r :: rs, l2⟩ ")").bind (prun ws) = _
      have s3 : pstep ⟨x :: hs, (e :: es) :: r :: rs, l2⟩ ")" = some ⟨hs, (r ++ [.tuple (.str x :: e :: es)]) :: rs, ")"⟩ := by
        unfold pstep
        rw [if_neg (by rw [sign_no.2.1]; decide), if_neg (by decide), if_pos en2]
        exact if_pos rfl
      rw [s3]
      rfl
    | _ => cases h.1.2
theorem run_tkM : ∀ (es : List PyData) (h : Str) (hs : List Str) (q : List PyData) (rs : List (List PyData)) (l : Str), formedAll es = true → ended l = true → ∃ l', ended l' = true ∧ ∀ ws, prun (tkM es ++ ws) ⟨h :: hs, q :: rs, l⟩ = prun ws ⟨h :: hs, (q ++ es) :: rs, l'⟩
  | [], h, hs, q, rs, l, _, en => ⟨l, en, fun ws => by simp [tkM]⟩
  | e :: es, h, hs, q, rs, l, hf, en => by
    rw [formedAll, Bool.and_eq_true] at hf
    obtain ⟨l1, en1, r1⟩ := run_tk e (h :: hs) q rs "," hf.1 (by decide)
    obtain ⟨l2, en2, r2⟩ := run_tkM es h hs (q ++ [e]) rs l1 hf.2 en1
    refine ⟨l2, en2, fun ws => ?_⟩
    have ew : tkM (e :: es) ++ ws = ("," : Str) :: (tk e ++ (tkM es ++ ws)) := by
      rw [tkM]
      simp
    rw [ew]
    show (pstep ⟨h :: hs, q :: rs, l⟩ ",").bind (prun _) = _
    have s1 : pstep ⟨h :: hs, q :: rs, l⟩ "," = some ⟨h :: hs, q :: rs, ","⟩ := by
      unfold pstep
      rw [if_neg (by rw [sign_no.2.2.1]; decide), if_neg (by decide), if_pos en]
      exact if_neg (by decide)
    rw [s1]
    show prun (tk e ++ (tkM es ++ ws)) ⟨h :: hs, q :: rs, ","⟩ = _
    rw [r1, r2, List.append_assoc]
    rfl
end
/-- and it reads the words of each formed datum -/
theorem parse_all {d : PyData} (h : formedD d = true) : parseD (tk d) = some d := by
  obtain ⟨l, en, r⟩ := run_tk d [] [] [] "(" h (by decide)
  have e := r []
  rw [List.append_nil] at e
  have e : prun (tk d) pm0 = prun [] ⟨[], ([] ++ [d]) :: [], l⟩ := e
  unfold parseD
  rw [e]
  exact if_pos ⟨en, rfl⟩
end K13
/-! Words in a text. -/
namespace K13
open PySem PySem.Spec PyProof.Rows L2 Kx
/-- one sign replaced -/
def rep (c : Nat) (z : List Nat) (l : List Nat) : List Nat := l.flatMap fun x => if x = c then z else [x]
theorem rep_app (c : Nat) (z a b : List Nat) : rep c z (a ++ b) = rep c z a ++ rep c z b := by simp [rep]
theorem rep_free {c : Nat} {z : List Nat} : ∀ {l : List Nat}, c ∉ l → rep c z l = l
  | [], _ => rfl
  | x :: l, h => by
    rw [List.mem_cons, not_or] at h
    show (if x = c then z else [x]) ++ rep c z l = x :: l
    rw [if_neg (Ne.symm h.1), rep_free h.2]
    rfl
theorem rep_join (c : Nat) (z : Str) : ∀ ps : List Str, (∀ p, p ∈ ps → c ∉ p.cps.toList) → rep c z.cps.toList (Str.join ⟨#[c]⟩ ps).cps.toList = (Str.join z ps).cps.toList
  | [], _ => rfl
  | [p], h => rep_free (h p List.mem_cons_self)
  | p :: q :: r, h => by
    have ih := rep_join c z (q :: r) (fun a ha => h a (List.mem_cons_of_mem _ ha))
    show rep c z.cps.toList ((p ++ ⟨#[c]⟩ ++ Str.join ⟨#[c]⟩ (q :: r) : Str)).cps.toList = ((p ++ z ++ Str.join z (q :: r) : Str)).cps.toList
    rw [str_app, str_app, str_app, str_app, rep_app, rep_app, ih, rep_free (h p List.mem_cons_self)]
    show p.cps.toList ++ ((if c = c then z.cps.toList else [c]) ++ []) ++ _ = _
    rw [if_pos rfl, List.append_nil]
theorem replace_rep (x z : Str) (c : Nat) : (Txt.replace x ⟨#[c]⟩ z).cps.toList = rep c z.cps.toList x.cps.toList := by
  rw [StrLaws.replace_one]
  have h := rep_join c z (Txt.split x ⟨#[c]⟩) (StrLaws.split_free x c)
  rw [StrLaws.join_split] at h
  exact h.symm
def sgn (x : Nat) : Bool := decide (x = 40) || decide (x = 41) || decide (x = 44)
/-- the signs away -/
def bare (l : List Nat) : List Nat := l.filter fun x => !sgn x
theorem rep_nil (c : Nat) (l : List Nat) : rep c [] l = l.filter fun x => !decide (x = c) := by
  induction l with
  | nil => rfl
  | cons x l ih =>
    show (if x = c then [] else [x]) ++ rep c [] l = _
    rw [ih]
    by_cases e : x = c <;> simp [e]
theorem bare_rep (l : List Nat) : rep 44 [] (rep 41 [] (rep 40 [] l)) = bare l := by
  rw [rep_nil, rep_nil, rep_nil, List.filter_filter, List.filter_filter]
  unfold bare
  congr 1
  funext x
  unfold sgn
  cases decide (x = 40) <;> cases decide (x = 41) <;> cases decide (x = 44) <;> rfl
/-- blanks about the signs -/
def airy (l : List Nat) : List Nat := l.flatMap fun x => if sgn x = true then [32, x, 32] else [x]
theorem airy_rep (l : List Nat) : rep 44 [32, 44, 32] (rep 41 [32, 41, 32] (rep 40 [32, 40, 32] l)) = airy l := by
  induction l with
  | nil => rfl
  | cons x l ih =>
    have e : rep 44 [32, 44, 32] (rep 41 [32, 41, 32] (rep 40 [32, 40, 32] [x])) = airy [x] := by
      by_cases h1 : x = 40
      · subst h1
        decide
      · by_cases h2 : x = 41
        · subst h2
          decide
        · by_cases h3 : x = 44
          · subst h3
            decide
          · simp [rep, airy, sgn, h1, h2, h3]
    rw [show x :: l = [x] ++ l from rfl, rep_app, rep_app, rep_app, ih, e]
    simp [airy]
/-- the words of a text whose other signs are letters: runs, and the signs alone -/
def wstepA (st : List (List Nat) × List Nat) (c : Nat) : List (List Nat) × List Nat :=
  if sgn c = true then (st.1 ++ (if st.2 = [] then [] else [st.2]) ++ [[c]], []) else (st.1, st.2 ++ [c])
open TL in
theorem fold_airy : ∀ (l : List Nat) (st : List (List Nat) × List Nat), (∀ c, c ∈ l → sgn c = false → Unicode.isSpace c = false) → (airy l).foldl wstep st = l.foldl wstepA st
  | [], _, _ => rfl
  | c :: l, (ws, u), h => by
    have hl := fun x hx => h x (List.mem_cons_of_mem _ hx)
    have e : airy (c :: l) = (if sgn c = true then [32, c, 32] else [c]) ++ airy l := rfl
    rw [e, List.foldl_append, List.foldl_cons]
    rw [fold_airy l _ hl]
    congr 1
    have s32 : Unicode.isSpace 32 = true := by decide +kernel
    by_cases g : sgn c = true
    · rw [if_pos g]
      have ns : Unicode.isSpace c = false := by
        have : c = 40 ∨ c = 41 ∨ c = 44 := by
          unfold sgn at g
          simpa [or_assoc] using g
        rcases this with rfl | rfl | rfl <;> decide +kernel
      unfold wstepA
      rw [if_pos g]
      show wstep (wstep (wstep (ws, u) 32) c) 32 = _
      by_cases hu : u = []
      · subst hu
        have a : wstep (ws, []) 32 = (ws, []) := by simp [wstep, s32]
        have b : wstep (ws, []) c = (ws, [c]) := by simp [wstep, ns]
        rw [a, b]
        simp [wstep, s32]
      · have a : wstep (ws, u) 32 = (ws ++ [u], []) := by simp [wstep, s32, hu]
        have b : wstep (ws ++ [u], []) c = (ws ++ [u], [c]) := by simp [wstep, ns]
        rw [a, b]
        simp [wstep, s32, hu]
    · rw [if_neg g]
      have ns := h c List.mem_cons_self (by simpa using g)
      unfold wstepA
      rw [if_neg g]
      show wstep (ws, u) c = _
      simp [wstep, ns]
theorem wsign (st : List (List Nat) × List Nat) {c : Nat} (h : sgn c = true) : wstepA st c = (TL.wfin st ++ [[c]], []) := by
  unfold wstepA TL.wfin
  rw [if_pos h]
  by_cases e : st.2 = [] <;> simp [e]
theorem wrun : ∀ (p : List Nat) (ws : List (List Nat)) (u : List Nat), (∀ c, c ∈ p → sgn c = false) → p.foldl wstepA (ws, u) = (ws, u ++ p)
  | [], ws, u, _ => by simp
  | c :: p, ws, u, h => by
    rw [List.foldl_cons]
    have e : wstepA (ws, u) c = (ws, u ++ [c]) := by
      unfold wstepA
      rw [if_neg (by rw [h c List.mem_cons_self]; decide)]
    rw [e, wrun p ws _ fun x hx => h x (List.mem_cons_of_mem _ hx)]
    simp
theorem nm_signs {x : Str} (h : isNm x = true) : x.cps.toList ≠ [] ∧ ∀ c, c ∈ x.cps.toList → sgn c = false := by
  simp only [isNm, Bool.and_eq_true, decide_eq_true_eq] at h
  refine ⟨fun e => ?_, fun c hc => ?_⟩
  · have : x.length = x.cps.toList.length := (Array.length_toList ..).symm
    rw [e] at this
    have l : x.length = 0 := this
    omega
  · have := (Array.all_eq_true'.mp h.2) c (Array.mem_toList_iff.mp hc)
    simp only [letter, Bool.and_eq_true, decide_eq_true_eq] at this
    unfold sgn
    simp
    omega
abbrev cs (l : List Str) : List (List Nat) := l.map fun x => x.cps.toList
mutual
theorem wtx : ∀ (d : PyData) (ws : List (List Nat)), formedD d = true → TL.wfin ((tx d).foldl wstepA (ws, [])) = ws ++ cs (tk d)
  | .none, _, h => by cases h
  | .bool _, _, h => by cases h
  | .int _, _, h => by cases h
  | .str _, _, h => by cases h
  | .list _, _, h => by cases h
  | .dict _, _, h => by cases h
  | .tuple [], _, h => by cases h
  | .tuple (d :: []), ws, h => by
    simp only [formedD, Bool.and_eq_true] at h
    cases d with
    | str x =>
      obtain ⟨n0, n1⟩ := nm_signs (x := x) h.1.2
      rw [tk_cell]
      show TL.wfin ((x.cps.toList ++ []).foldl wstepA (ws, [])) = _
      rw [List.append_nil, wrun _ _ _ n1, List.nil_append]
      exact if_neg n0
    | _ => cases h.1.2
  | .tuple (d :: e :: es), ws, h => by
    simp only [formedD, formedAll, Bool.and_eq_true] at h
    cases d with
    | str x =>
      obtain ⟨n0, n1⟩ := nm_signs (x := x) h.1.2
      have e1 : tx (.tuple (.str x :: e :: es)) = x.cps.toList ++ ([40] ++ (tx e ++ (txM es ++ [41]))) := rfl
      rw [e1, List.foldl_append, wrun _ _ _ n1, List.nil_append, List.foldl_append, List.foldl_append, List.foldl_append]
      have e2 : [40].foldl wstepA (ws, x.cps.toList) = (ws ++ [x.cps.toList, [40]], []) := by
        show wstepA (ws, x.cps.toList) 40 = _
        rw [wsign _ (by decide)]
        unfold TL.wfin
        rw [if_neg n0]
        simp
      rw [e2]
      have r1 := wtx e (ws ++ [x.cps.toList, [40]]) h.2.1
      have r2 := wtxM es ((tx e).foldl wstepA (ws ++ [x.cps.toList, [40]], [])) h.2.2
      show TL.wfin (wstepA _ 41) = _
      rw [wsign _ (by decide), r2, r1, tk_tuple x (by simp)]
      show TL.wfin (_, []) = _
      unfold TL.wfin
      rw [if_pos rfl]
      show (ws ++ [x.cps.toList, [40]]) ++ cs (tk e) ++ cs (tkM es) ++ [[41]] = ws ++ (x.cps.toList :: [40] :: cs (tk e ++ tkM es ++ [((")" : Str))]))
      have e3 : cs (tk e ++ tkM es ++ [((")" : Str))]) = cs (tk e) ++ cs (tkM es) ++ [[41]] := by
        simp [cs]
        rfl
      rw [e3]
      simp
    | _ => cases h.1.2
theorem wtxM : ∀ (es : List PyData) (st : List (List Nat) × List Nat), formedAll es = true → TL.wfin ((txM es).foldl wstepA st) = TL.wfin st ++ cs (tkM es)
  | [], st, _ => by simp [txM, tkM]
  | e :: es, st, h => by
    rw [formedAll, Bool.and_eq_true] at h
    have e1 : txM (e :: es) = [44] ++ (tx e ++ txM es) := rfl
    rw [e1, List.foldl_append, List.foldl_append]
    have e2 : [44].foldl wstepA st = (TL.wfin st ++ [[44]], []) := wsign (c := 44) st (by decide)
    rw [e2]
    have r1 := wtx e (TL.wfin st ++ [[44]]) h.1
    have r2 := wtxM es ((tx e).foldl wstepA (TL.wfin st ++ [[44]], [])) h.2
    rw [r2, r1, tkM]
    show TL.wfin st ++ [[44]] ++ cs (tk e) ++ cs (tkM es) = TL.wfin st ++ ([44] :: cs (tk e ++ tkM es))
    simp [cs]
end
/-- a row of words -/
def Wd (w : List Nat) : Prop := (∃ c, sgn c = true ∧ w = [c]) ∨ (w ≠ [] ∧ ∀ c, c ∈ w → sgn c = false)
theorem wkeep0 (st : List (List Nat) × List Nat) (h1 : ∀ w, w ∈ st.1 → Wd w) (h2 : ∀ c, c ∈ st.2 → sgn c = false) : (∀ w, w ∈ TL.wfin st → Wd w) ∧ (TL.wfin st).flatten = st.1.flatten ++ st.2 := by
  unfold TL.wfin
  by_cases e : st.2 = []
  · rw [if_pos e]
    exact ⟨h1, by simp [e]⟩
  · rw [if_neg e]
    refine ⟨fun w hw => ?_, by simp⟩
    rcases List.mem_append.mp hw with hw | hw
    · exact h1 w hw
    · rw [List.mem_singleton.mp hw]
      exact .inr ⟨e, h2⟩
/-- what the words are -/
theorem wkeep : ∀ (l : List Nat) (st : List (List Nat) × List Nat), (∀ w, w ∈ st.1 → Wd w) → (∀ c, c ∈ st.2 → sgn c = false) → (∀ w, w ∈ TL.wfin (l.foldl wstepA st) → Wd w) ∧ (TL.wfin (l.foldl wstepA st)).flatten = st.1.flatten ++ st.2 ++ l
  | [], st, h1, h2 => by
    rw [List.append_nil]
    exact wkeep0 st h1 h2
  | c :: l, st, h1, h2 => by
    rw [List.foldl_cons]
    by_cases g : sgn c = true
    · rw [wsign st g]
      obtain ⟨z1, z2⟩ := wkeep0 st h1 h2
      obtain ⟨y1, y2⟩ := wkeep l (TL.wfin st ++ [[c]], []) (fun w hw => by
        rcases List.mem_append.mp hw with hw | hw
        · exact z1 w hw
        · rw [List.mem_singleton.mp hw]
          exact .inl ⟨c, g, rfl⟩) (fun c hc => nomatch hc)
      refine ⟨y1, ?_⟩
      rw [y2]
      show (TL.wfin st ++ [[c]]).flatten ++ [] ++ l = _
      rw [List.flatten_append, z2]
      simp
    · have e : wstepA st c = (st.1, st.2 ++ [c]) := by
        unfold wstepA
        rw [if_neg g]
      rw [e]
      obtain ⟨y1, y2⟩ := wkeep l (st.1, st.2 ++ [c]) h1 (fun x hx => by
        rcases List.mem_append.mp hx with hx | hx
        · exact h2 x hx
        · rw [List.mem_singleton.mp hx]
          simpa using g)
      exact ⟨y1, by rw [y2]; simp⟩
end K13
/-! Defs with str.replace; defs that raise. -/
namespace Kx
open PySem PySem.Spec PyProof.Rows L2 CwR
section
variable {X : Cx} {o e : Expr} {to te : TE} {pos : Pos}
theorem pst_set {i : Nat} {x : Str} {pos' : Pos} (hN : X.N.Nodup) (hi : X.N[i]? = some x) (hx : Loc X.env.scope x) (he : PET X e te) (hs : swapsWith e (some (.Name x pos')) pos.line X.env = pure false := by rfl) (hf : X.fn x = true ∨ X.env.scope.names.lookup x = some .local := by first | exact .inl rfl | exact .inr rfl | assumption) :
    PST X (.Assign [.Name x pos'] e pos) (tAsg te (gName i)) := by
  intro pins s σ H D h0 I h
  refine wpAny_Assign_Name (thn (he pins s σ H _ h0 I h) fun v s1 ⟨y, H1, I1, r1, q1⟩ => ?_) hs
  exact store_ok I1 hN hi hx r1 (fun s2 I2 => ⟨_, H1, I2, q1⟩) hf
theorem pet_m0 {id : String} {name : Str} {apos pos : Pos} {r : V → List V → Hp → VK → Prop} (slot : Slot "str" name id) (ty : typeOf (.builtin id) = pure (.type "method_descriptor")) (rule : MtR X id r) (ho : PET X o to)
    (hbase : attributeBase o name X.env (eval o X.env) = eval o X.env := by rfl) (hline : (apos.endLine == pos.line) = true := by rfl) : PET X (.Call (.Attribute o name apos) [] [] pos) (tM0 r to) := by
  intro pins s σ H Q h0 I h
  refine PySem.Call_method0 hbase hline (thn (ho pins s σ H _ h0 I h) fun v s1 ⟨x, H1, I1, r1, q1⟩ => ?_)
  obtain ⟨⟨a, rfl⟩, q1⟩ := q1
  obtain ⟨t, rfl⟩ := _root_.id r1
  exact ⟨"str", _, F.plainAttrs_str, slot, ty, typeIs_str _ _ _, (fun _ e => nomatch e), Calls.callWith_builtin rfl (PySem.evalArgs_none (rule pins s1 σ H1 _ [] _ [] Q I1 r1 .nil q1))⟩
theorem pet_words {apos pos : Pos} (ho : PET X o to) (hbase : attributeBase o "split" X.env (eval o X.env) = eval o X.env := by rfl) (hline : (apos.endLine == pos.line) = true := by rfl) :
    PET X (.Call (.Attribute o "split" apos) [] [] pos) (tM0 (fun x xs H Q => ∃ a, x = .str a ∧ xs = [] ∧ a.length + 2 ≤ sizeLine ∧ rNewStrs (Txt.words a) H Q) to) :=
  pet_m0 F.slot_str_split F.type_str_split mt_words ho hbase hline
end
section
variable {P : Program} {w : World} {K : PySem.W.Frag} {mg : Str → Option Value} {base : Heap}
/-- a def in which a token is out from the beginning on (it has a parameter) -/
theorem okT {x qual : Str} {st : Stmt} {f : Addr} {fd : FuncData} {N ps : List Str} {k : Nat} {sp : Sp} (F : Fun K x qual st f fd) (S : FnScope N ps (defScope st)) (hnc : ∀ y ∈ (defScope st).names, y.2 ≠ .cell) (hps : 1 ≤ ps.length) (len : ∀ vs H Q E, sp vs H Q E → vs.length = ps.length)
    (hbody : ∀ (cdv : Value) (A : Around) (outer : List Env) (s : Shared) (H : Hp) (vs : List V) (Q : VK) (E : XK), Room k (A.deeper (envOfC qual (defScope st) s.heap.objs.size f cdv)) → sp vs H Q E →
      ∃ t, PSsT (cxOf CX0 P w K mg base N qual (defScope st) f cdv A outer s H E) (defBody st) t ∧ t { nx := fun _ H' => Q .non H', rt := Q } (start N vs) H) : FnOk P w K mg base CX0 (k + 1) f fd ps sp := by
  obtain ⟨oc, od, kV, doc, pm, an, cdv, ct, osl, rfl, lk, hcd⟩ := F.ex
  exact fn_ofT lk hcd S hnc hps len fun A outer s H vs Q E hr h => hbody cdv A outer s H vs Q E hr h
theorem exm_self {S : Addr} (h1 : PySem.W.subIn K (.ref S) (.type "BaseException") = some true) (h2 : PySem.W.isClsIn K S = true) (h3 : PySem.W.typeIn K (.ref S) = some (.type "type")) (h4 : PySem.W.subIn K (.ref S) (.ref S) = some true) :
    PySem.W.exmOne K (.ref S) (.ref S) = some true := by
  have e1 : (PySem.W.subIn K (.ref S) (.type "BaseException") == some true) = true := by rw [h1] <;> rfl
  have e2 : ((PySem.W.clsIn K S).isSome && PySem.W.typeIn K (.ref S) == some (.type "type")) = true := by
    have h2' : (PySem.W.clsIn K S).isSome = true := h2
    rw [h2', h3] <;> rfl
  show (if (PySem.W.subIn K (.ref S) (.type "BaseException") == some true) = true then (if ((PySem.W.clsIn K S).isSome && PySem.W.typeIn K (.ref S) == some (.type "type")) = true then PySem.W.subIn K (.ref S) (.ref S) else none) else none) = some true
  rw [if_pos e1, if_pos e2]
  exact h4
end
end Kx
/-! words_in. -/
namespace K13
open PySem PySem.Spec PyProof.Rows L2 Kx CwR
def lettersOf (x : Str) : Str := Txt.replace (Txt.replace (Txt.replace x "(" "") ")" "") "," ""
def airyOf (x : Str) : Str := Txt.replace (Txt.replace (Txt.replace x "(" " ( ") ")" " ) ") "," " , "
def wordsOf (x : Str) : List Str := if Txt.isalpha (lettersOf x) = true then Txt.words (airyOf x) else []
section
variable {P : Program} {w : World} {K : PySem.W.Frag} {mg : Str → Option Value} {base : Heap}
def spWords : Sp := fun vs H Q _ => ∃ (x : Str), vs = [.str x] ∧ x.length ≤ 2000 ∧ ∀ p, H p = none → Q (.ref p) (upd H p (.lst ((wordsOf x).map V.str)))
theorem ok_words (T : Tx K mg) : FnOk P w K mg base CX0 1 T.awords_in T.dwords_in ["text"] spWords := by
  have nd := sc_words_in.nd
  refine okT T.fwords_in sc_words_in (by decide +kernel) (by decide) (fun vs H Q E h => ?_) (fun cdv A outer s H vs Q E hr h => ?_)
  · obtain ⟨x, rfl, _⟩ := h
    rfl
  · obtain ⟨x, rfl, hx, q⟩ := h
    refine ⟨_, (psst_cons (pst_set (i := 1) nd rfl (.inl rfl) (pet_replT (pet_replT (pet_replC (pv 0)))))
      (psst_cons (PST.of (ps_if (pt_not (pt_val (pe_bm0 PySem.F.plainAttrs_str PySem.F.slot_str_isalpha PySem.F.type_str_isalpha mt_isalpha (pv 1)))) (pss_one (ps_ret (pe_lst pa_nil))) pss_nil))
      (psst_one (pst_ret (pet_words (pet_replT (pet_replT (pet_replC (pv 0))))))))), ?_⟩
    have l1 := TK.replace_len x "(" ""
    have l2 := TK.replace_len (Txt.replace x "(" "") ")" ""
    have l3 := TK.replace_len (Txt.replace (Txt.replace x "(" "") ")" "") "," ""
    have m1 := TK.replace_len x "(" " ( "
    have m2 := TK.replace_len (Txt.replace x "(" " ( ") ")" " ) "
    have m3 := TK.replace_len (Txt.replace (Txt.replace x "(" " ( ") ")" " ) ") "," " , "
    have z0 : ("" : Str).length = 0 := rfl
    have z1 : (" ( " : Str).length = 3 := rfl
    have z2 : (" ) " : Str).length = 3 := rfl
    have z3 : (" , " : Str).length = 3 := rfl
    rw [z0, Nat.mul_zero, Nat.add_zero] at l1 l2 l3
    rw [z1] at m1
    rw [z2] at m2
    rw [z3] at m3
    have line : 140000 ≤ sizeLine := by decide
    refine ⟨_, rfl, _, rfl, by rw [z0]; omega, _, rfl, by rw [z0]; omega, _, rfl, by rw [z0]; omega, ?_⟩
    refine ⟨_, rfl, rfl, _, rfl, rfl, trivial, _, rfl, ?_⟩
    have q : ∀ p, H p = none → Q (.ref p) (upd H p (.lst ((if Txt.isalpha (lettersOf x) = true then Txt.words (airyOf x) else []).map V.str))) := q
    show if (!Txt.isalpha (lettersOf x)) = true then _ else _
    cases e : Txt.isalpha (lettersOf x) with
    | false =>
      rw [e] at q
      exact iteT ⟨Nat.zero_le _, fun p np => q p np⟩
    | true =>
      rw [e] at q
      refine iteF ⟨_, rfl, _, rfl, by rw [z1]; omega, _, rfl, by rw [z2]; omega, _, rfl, by rw [z3]; omega, ⟨_, rfl⟩, _, rfl, rfl, ?_, fun p np => q p np⟩
      omega
end
end K13
/-! What read_term reads. -/
namespace K13
open PySem PySem.Spec PyProof.Rows L2 Kx CwR
theorem letters_tl (x : Str) : (lettersOf x).cps.toList = bare x.cps.toList := by
  unfold lettersOf
  rw [← bare_rep]
  rw [show ("," : Str) = ⟨#[44]⟩ from rfl, show (")" : Str) = ⟨#[41]⟩ from rfl, show ("(" : Str) = ⟨#[40]⟩ from rfl, replace_rep, replace_rep, replace_rep]
  rfl
theorem airy_tl (x : Str) : (airyOf x).cps.toList = airy x.cps.toList := by
  unfold airyOf
  rw [← airy_rep]
  rw [show ("," : Str) = ⟨#[44]⟩ from rfl, show (")" : Str) = ⟨#[41]⟩ from rfl, show ("(" : Str) = ⟨#[40]⟩ from rfl, replace_rep, replace_rep, replace_rep]
  rfl
theorem within_mem : ∀ (l : List (Nat × Nat)) (c : Nat), Unicode.within l c = true → ∃ p, p ∈ l ∧ p.1 ≤ c ∧ c ≤ p.2
  | [], _, h => by cases h
  | (a, b) :: r, c, h => by
    have h : (if c < a then false else decide (c ≤ b) || Unicode.within r c) = true := h
    by_cases e : c < a
    · rw [if_pos e] at h
      cases h
    · rw [if_neg e, Bool.or_eq_true, decide_eq_true_eq] at h
      rcases h with h | h
      · exact ⟨_, List.mem_cons_self, by show a ≤ c; omega, h⟩
      · obtain ⟨p, hp, q⟩ := within_mem r c h
        exact ⟨p, List.mem_cons_of_mem _ hp, q⟩
theorem space_table : (PySem.UnicodeData.space.all fun p => (List.range (p.2 - p.1 + 1)).all fun i => !Unicode.isAlpha (p.1 + i)) = true := by decide +kernel
theorem alpha_space {c : Nat} (h : Unicode.isAlpha c = true) : Unicode.isSpace c = false := by
  cases e : Unicode.isSpace c with
  | false => rfl
  | true =>
    obtain ⟨p, hp, h1, h2⟩ := within_mem _ _ e
    have z := List.all_eq_true.mp space_table p hp
    have z := List.all_eq_true.mp z (c - p.1) (List.mem_range.mpr (by omega))
    rw [show p.1 + (c - p.1) = c by omega, h] at z
    cases z
theorem isalpha_iff (x : Str) : Txt.isalpha x = true ↔ x.cps.toList ≠ [] ∧ ∀ c, c ∈ x.cps.toList → Unicode.isAlpha c = true := by
  unfold Txt.isalpha
  rw [Bool.and_eq_true, decide_eq_true_eq, Array.all_eq_true']
  constructor
  · rintro ⟨h1, h2⟩
    refine ⟨fun e => ?_, fun c hc => h2 c (Array.mem_toList_iff.mp hc)⟩
    have : x.length = x.cps.toList.length := (Array.length_toList ..).symm
    rw [e] at this
    have : x.length = 0 := this
    omega
  · rintro ⟨h1, h2⟩
    refine ⟨?_, fun c hc => h2 c (Array.mem_toList_iff.mpr hc)⟩
    have e : x.length = x.cps.toList.length := (Array.length_toList ..).symm
    cases k : x.cps.toList with
    | nil => exact absurd k h1
    | cons a l =>
      rw [k] at e
      show 0 < x.length
      rw [e]
      simp
theorem str_of {x y : Str} (h : x.cps.toList = y.cps.toList) : x = y := by
  rw [← tS_list x, ← tS_list y, h]
/-- the words, where all else are letters -/
theorem words_A {x : Str} (h : Txt.isalpha (lettersOf x) = true) : cs (wordsOf x) = TL.wfin (x.cps.toList.foldl wstepA ([], [])) := by
  have e := TL.words_tl (airyOf x)
  unfold wordsOf
  rw [if_pos h]
  have e : cs (Txt.words (airyOf x)) = TL.wfin ((airyOf x).cps.toList.foldl TL.wstep ([], [])) := e
  rw [e, airy_tl, fold_airy]
  intro c hc g
  refine alpha_space ?_
  have z := ((isalpha_iff _).mp h).2 c
  rw [letters_tl] at z
  exact z (List.mem_filter.mpr ⟨hc, by rw [g]; rfl⟩)
theorem parse_none : parseD [] = none := by decide
theorem cs_flat (ws : List Str) : (cs ws).flatten = catS ws := by
  induction ws with
  | nil => rfl
  | cons a ws ih =>
    show a.cps.toList ++ (cs ws).flatten = _
    rw [ih]
    rfl
theorem told_sound {x : Str} {d : PyData} (h : parseD (wordsOf x) = some d) : x = tS (tx d) := by
  by_cases al : Txt.isalpha (lettersOf x) = true
  · have e := words_A al
    obtain ⟨k1, k2⟩ := wkeep x.cps.toList ([], []) (fun w hw => nomatch hw) (fun c hc => nomatch hc)
    rw [← e] at k1 k2
    have k2 : (cs (wordsOf x)).flatten = x.cps.toList := k2
    have ok : ∀ w, w ∈ wordsOf x → okW w := by
      intro w hw
      have hm : w.cps.toList ∈ cs (wordsOf x) := List.mem_map.mpr ⟨w, hw, rfl⟩
      rcases k1 _ hm with ⟨c, g, e2⟩ | ⟨n0, n1⟩
      · unfold sgn at g
        simp only [Bool.or_eq_true, decide_eq_true_eq] at g
        rcases g with (g | g) | g
        · subst g
          exact .inr (.inl (str_of e2))
        · subst g
          exact .inr (.inr (.inl (str_of e2)))
        · subst g
          exact .inr (.inr (.inr (str_of e2)))
      · refine .inl ((isalpha_iff w).mpr ⟨n0, fun c hc => ?_⟩)
        have z := ((isalpha_iff _).mp al).2 c
        rw [letters_tl] at z
        refine z (List.mem_filter.mpr ⟨?_, by rw [n1 c hc]; rfl⟩)
        rw [← k2]
        exact List.mem_flatten.mpr ⟨_, hm, hc⟩
    have e3 := parse_sound ok h
    rw [e3, cs_flat, cat_tk] at k2
    rw [k2, tS_list]
  · unfold wordsOf at h
    rw [if_neg al, parse_none] at h
    cases h
mutual
theorem tx_signs : ∀ (d : PyData), formedD d = true → ∀ c, c ∈ tx d → sgn c = true ∨ letter c = true
  | .none, h => by cases h
  | .bool _, h => by cases h
  | .int _, h => by cases h
  | .str _, h => by cases h
  | .list _, h => by cases h
  | .dict _, h => by cases h
  | .tuple [], h => by cases h
  | .tuple (d :: ds), h => by
    simp only [formedD, Bool.and_eq_true] at h
    intro c hc
    cases d with
    | str x =>
      have nx : isNm x = true := h.1.2
      rcases List.mem_append.mp hc with hc | hc
      · simp only [isNm, Bool.and_eq_true] at nx
        exact .inr ((Array.all_eq_true'.mp nx.2) c (Array.mem_toList_iff.mp hc))
      · exact txA_signs ds h.2 c hc
    | _ => cases h.1.2
theorem txA_signs : ∀ (ds : List PyData), formedAll ds = true → ∀ c, c ∈ txA ds → sgn c = true ∨ letter c = true
  | [], _ => fun c hc => by cases hc
  | e :: es, h => by
    rw [formedAll, Bool.and_eq_true] at h
    intro c hc
    rcases List.mem_cons.mp hc with rfl | hc
    · exact .inl rfl
    · rcases List.mem_append.mp hc with hc | hc
      · exact tx_signs e h.1 c hc
      · rcases List.mem_append.mp hc with hc | hc
        · exact txM_signs es h.2 c hc
        · rw [List.mem_singleton.mp hc]
          exact .inl rfl
theorem txM_signs : ∀ (ds : List PyData), formedAll ds = true → ∀ c, c ∈ txM ds → sgn c = true ∨ letter c = true
  | [], _ => fun c hc => by cases hc
  | e :: es, h => by
    rw [formedAll, Bool.and_eq_true] at h
    intro c hc
    rcases List.mem_cons.mp hc with rfl | hc
    · exact .inl rfl
    · rcases List.mem_append.mp hc with hc | hc
      · exact tx_signs e h.1 c hc
      · exact txM_signs es h.2 c hc
end
theorem letter_alpha {c : Nat} (h : letter c = true) : Unicode.isAlpha c = true := by
  have z := (ascii_at (letter_ascii h)).1
  rw [h] at z
  have z := z.symm
  rw [Bool.and_eq_true] at z
  exact z.1
theorem cs_inj : ∀ {a b : List Str}, cs a = cs b → a = b
  | [], [], _ => rfl
  | [], _ :: _, h => by cases h
  | _ :: _, [], h => by cases h
  | x :: a, y :: b, h => by
    have h1 : x.cps.toList = y.cps.toList := (List.cons.inj h).1
    rw [str_of h1, cs_inj (List.cons.inj h).2]
theorem told_all {d : PyData} (h : formedD d = true) : parseD (wordsOf (tS (tx d))) = some d := by
  have et : (tS (tx d)).cps.toList = tx d := List.toList_toArray ..
  have al : Txt.isalpha (lettersOf (tS (tx d))) = true := by
    refine (isalpha_iff _).mpr ?_
    rw [letters_tl, et]
    refine ⟨fun e => ?_, fun c hc => ?_⟩
    · obtain ⟨x, ds, rfl, _, hn, _⟩ := formed_shape h
      obtain ⟨n0, n1⟩ := nm_signs hn
      cases k : x.cps.toList with
      | nil => exact n0 k
      | cons a l =>
        have hm : a ∈ bare (tx (.tuple (.str x :: ds))) := by
          refine List.mem_filter.mpr ⟨?_, by rw [n1 a (by rw [k]; exact List.mem_cons_self)]; rfl⟩
          show a ∈ x.cps.toList ++ txA ds
          rw [k]
          exact List.mem_append_left _ List.mem_cons_self
        rw [e] at hm
        cases hm
    · obtain ⟨h1, h2⟩ := List.mem_filter.mp hc
      rcases tx_signs d h c h1 with g | g
      · rw [g] at h2
        cases h2
      · exact letter_alpha g
  have e := words_A al
  rw [et, wtx d [] h] at e
  rw [cs_inj (a := wordsOf (tS (tx d))) (b := tk d) (by simpa using e), parse_all h]
/-- what read_term reads in x -/
def toldD (x : Str) : Option PyData := (parseD (wordsOf x)).bind fun d => if termD d = true then some d else none
theorem told_iff (x : Str) (d : PyData) : toldD x = some d ↔ x = tS (tx d) ∧ termD d = true := by
  unfold toldD
  constructor
  · intro h
    cases e : parseD (wordsOf x) with
    | none =>
      rw [e] at h
      cases h
    | some d2 =>
      rw [e] at h
      have h : (if termD d2 = true then some d2 else none) = some d := h
      by_cases t : termD d2 = true
      · rw [if_pos t] at h
        cases h
        exact ⟨told_sound e, t⟩
      · rw [if_neg t] at h
        cases h
  · rintro ⟨rfl, t⟩
    have f : formedD d = true := by
      simp only [termD, Bool.and_eq_true] at t
      exact t.1
    rw [told_all f]
    exact if_pos t
end K13
/-! The law's own reader: what it reads. -/
namespace K13
open PySem PySem.Spec PyProof.Rows L2 Kx
/-- what may stand behind a term -/
def Follow (r : List Nat) : Prop := r = [] ∨ ∃ c l, r = c :: l ∧ (c = 44 ∨ c = 41)
/-- an answer of the reader at s -/
def Res (s : List Nat) : Option (PyData × List Nat) → Prop
  | none => ∀ d r, formedD d = true → Follow r → s ≠ tx d ++ r
  | some (d, r) => formedD d = true ∧ s = tx d ++ r ∧ ∀ d' r', formedD d' = true → Follow r' → s = tx d' ++ r' → d' = d ∧ r' = r
theorem take_run {w t : List Nat} (hw : ∀ c, c ∈ w → letter c = true) (ht : ∀ c l, t = c :: l → letter c = false) : (w ++ t).takeWhile letter = w ∧ (w ++ t).dropWhile letter = t := by
  induction w with
  | nil =>
    cases t with
    | nil => exact ⟨rfl, rfl⟩
    | cons c l =>
      have := ht c l rfl
      simp [this]
  | cons a w ih =>
    have h1 := hw a List.mem_cons_self
    obtain ⟨i1, i2⟩ := ih fun c hc => hw c (List.mem_cons_of_mem _ hc)
    simp [h1, i1, i2]
theorem isNm_iff {x : Str} : isNm x = true ↔ 1 ≤ x.cps.toList.length ∧ x.cps.toList.length ≤ 8 ∧ ∀ c, c ∈ x.cps.toList → letter c = true := by
  simp only [isNm, Bool.and_eq_true, decide_eq_true_eq]
  have e : x.length = x.cps.toList.length := (Array.length_toList ..).symm
  rw [e, Array.all_eq_true', and_assoc]
  refine and_congr_right fun _ => and_congr_right fun _ => ⟨fun h c hc => h c (Array.mem_toList_iff.mp hc), fun h c hc => h c (Array.mem_toList_iff.mpr hc)⟩
theorem follow_head {r : List Nat} (h : Follow r) : ∀ c l, r = c :: l → letter c = false ∧ c ≠ 40 := by
  rintro c l rfl
  rcases h with h | ⟨c', l', e, h⟩
  · cases h
  · cases e
    rcases h with rfl | rfl <;> decide
theorem txA_head {es : List PyData} {r : List Nat} (h : Follow r) : ∀ c l, txA es ++ r = c :: l → letter c = false := by
  intro c l e
  cases es with
  | nil => exact (follow_head h c l e).1
  | cons a es =>
    have e : 40 :: _ = c :: l := e
    cases e
    decide
theorem formed_split {s r : List Nat} {d : PyData} (hd : formedD d = true) (hr : Follow r) (e : s = tx d ++ r) :
    ∃ x es, d = .tuple (.str x :: es) ∧ es.length ≤ 3 ∧ isNm x = true ∧ formedAll es = true ∧ s.takeWhile letter = x.cps.toList ∧ s.dropWhile letter = txA es ++ r := by
  obtain ⟨x, es, rfl, l3, hn, hf⟩ := formed_shape hd
  have e : s = x.cps.toList ++ (txA es ++ r) := by
    rw [e]
    show (x.cps.toList ++ txA es) ++ r = _
    rw [List.append_assoc]
  obtain ⟨t1, t2⟩ := take_run (w := x.cps.toList) (t := txA es ++ r) (isNm_iff.mp hn).2.2 (txA_head hr)
  rw [← e] at t1 t2
  exact ⟨x, es, rfl, l3, hn, hf, t1, t2⟩
theorem split_back (s : List Nat) : s.takeWhile letter ++ s.dropWhile letter = s := List.takeWhile_append_dropWhile
def nmOf (s : List Nat) : Str := tS (s.takeWhile letter)
theorem nmOf_tl (s : List Nat) : (nmOf s).cps.toList = s.takeWhile letter := List.toList_toArray ..
theorem mem_take {s : List Nat} {c : Nat} : c ∈ s.takeWhile letter → letter c = true := by
  induction s with
  | nil => intro h; cases h
  | cons a s ih =>
    intro h
    by_cases e : letter a = true
    · rw [List.takeWhile_cons, if_pos e] at h
      rcases List.mem_cons.mp h with rfl | h
      · exact e
      · exact ih h
    · rw [List.takeWhile_cons, if_neg e] at h
      cases h
theorem nmOf_iff (s : List Nat) : isNm (nmOf s) = true ↔ 1 ≤ (s.takeWhile letter).length ∧ (s.takeWhile letter).length ≤ 8 := by
  rw [isNm_iff, nmOf_tl]
  exact ⟨fun h => ⟨h.1, h.2.1⟩, fun h => ⟨h.1, h.2, fun c hc => mem_take hc⟩⟩
theorem nmOf_eq {s : List Nat} {x : Str} (e : s.takeWhile letter = x.cps.toList) : nmOf s = x := str_of (by rw [nmOf_tl, e])
theorem res_bad {s : List Nat} (h : isNm (nmOf s) = false) : Res s none := fun d r hd hr e => by
  obtain ⟨x, es, _, _, hn, _, t1, _⟩ := formed_split hd hr e
  rw [nmOf_eq t1, hn] at h
  cases h
theorem res_cell {s : List Nat} (hn : isNm (nmOf s) = true) (h : ∀ l, s.dropWhile letter ≠ 40 :: l) : Res s (some (.tuple [.str (nmOf s)], s.dropWhile letter)) := by
  refine ⟨by simp [formedD, formedAll, nameD, hn], ?_, fun d' r' hd hr e => ?_⟩
  · have : tx (.tuple [.str (nmOf s)]) = s.takeWhile letter := by
      show (nmOf s).cps.toList ++ [] = _
      rw [nmOf_tl, List.append_nil]
    rw [this, split_back]
  · obtain ⟨x, es, rfl, _, hn, _, t1, t2⟩ := formed_split hd hr e
    cases es with
    | nil => exact ⟨by rw [nmOf_eq t1], t2.symm⟩
    | cons a es => exact absurd t2 (h _)
def hdT : List PyData → List Nat
  | [] => []
  | d :: ds => 40 :: (tx d ++ txM ds)
def tlT : List PyData → List PyData → List Nat
  | [], es => txA es
  | _ :: _, es => txM es ++ [41]
def sg : List PyData → Nat
  | [] => 40
  | _ :: _ => 44
theorem txM_app (a b : List PyData) : txM (a ++ b) = txM a ++ txM b := by
  induction a with
  | nil => rfl
  | cons x a ih =>
    show 44 :: (tx x ++ txM (a ++ b)) = 44 :: (tx x ++ txM a) ++ txM b
    rw [ih]
    simp
/-- within the brackets: ds are read, t is left -/
structure Pre (s t : List Nat) (ds : List PyData) : Prop where
  len : ds.length ≤ 3
  fm : formedAll ds = true
  eq : s.dropWhile letter = hdT ds ++ t
  un : ∀ es r, formedAll es = true → es.length ≤ 3 → Follow r → s.dropWhile letter = txA es ++ r → ∃ es', es = ds ++ es' ∧ t = tlT ds es' ++ r
theorem pre0 (s : List Nat) : Pre s (s.dropWhile letter) [] := ⟨Nat.zero_le _, rfl, rfl, fun es r _ _ _ e => ⟨es, rfl, e⟩⟩
theorem pre_next {s t : List Nat} {ds es : List PyData} {r : List Nat} (p : Pre s (sg ds :: t) ds) (h1 : formedAll es = true) (h2 : es.length ≤ 3) (h3 : Follow r) (e : s.dropWhile letter = txA es ++ r) :
    ∃ a es', es = ds ++ a :: es' ∧ formedD a = true ∧ t = tx a ++ (txM es' ++ 41 :: r) := by
  obtain ⟨es', rfl, z⟩ := p.un es r h1 h2 h3 e
  rw [formedAll_append, Bool.and_eq_true] at h1
  cases ds with
  | nil =>
    have z : 40 :: t = txA es' ++ r := z
    cases es' with
    | nil => exact absurd rfl (follow_head h3 40 t z.symm).2
    | cons a es' =>
      have z : 40 :: t = 40 :: (tx a ++ (txM es' ++ [41])) ++ r := z
      have h1 := h1.2
      rw [formedAll, Bool.and_eq_true] at h1
      refine ⟨a, es', rfl, h1.1, ?_⟩
      simpa using z
  | cons b ds =>
    have z : 44 :: t = (txM es' ++ [41]) ++ r := z
    cases es' with
    | nil =>
      simp [txM] at z
    | cons a es' =>
      have z : 44 :: t = (44 :: (tx a ++ txM es') ++ [41]) ++ r := z
      have h1 := h1.2
      rw [formedAll, Bool.and_eq_true] at h1
      refine ⟨a, es', rfl, h1.1, ?_⟩
      simpa using z
theorem follow_txM (es : List PyData) (r : List Nat) : Follow (txM es ++ 41 :: r) := by
  cases es with
  | nil => exact .inr ⟨41, r, rfl, .inr rfl⟩
  | cons a es => exact .inr ⟨44, _, rfl, .inl rfl⟩
theorem pre_none {s t : List Nat} {ds : List PyData} (p : Pre s (sg ds :: t) ds) (h : Res t none) : Res s none := fun d r hd hr e => by
  obtain ⟨x, es, _, l3, _, hf, _, t2⟩ := formed_split hd hr e
  obtain ⟨a, es', _, fa, z⟩ := pre_next p hf l3 hr t2
  exact h a _ fa (follow_txM _ _) z
theorem pre_many {s t : List Nat} {ds : List PyData} (p : Pre s (sg ds :: t) ds) (h : 2 < ds.length) : Res s none := fun d r hd hr e => by
  obtain ⟨x, es, _, l3, _, hf, _, t2⟩ := formed_split hd hr e
  obtain ⟨a, es', rfl, _⟩ := pre_next p hf l3 hr t2
  rw [List.length_append, List.length_cons] at l3
  omega
theorem pre_more {s t r : List Nat} {ds : List PyData} {d : PyData} (p : Pre s (sg ds :: t) ds) (h : Res t (some (d, r))) (l : ds.length ≤ 2) : Pre s r (ds ++ [d]) := by
  obtain ⟨h1, h2, h3⟩ := h
  refine ⟨by rw [List.length_append]; simp; omega, by rw [formedAll_append, p.fm]; simp [formedAll, h1], ?_, fun es r0 g1 g2 g3 g4 => ?_⟩
  · rw [p.eq, h2]
    cases ds with
    | nil => simp [hdT, sg, txM]
    | cons b ds => simp [hdT, sg, txM_app, txM]
  · obtain ⟨a, es', rfl, fa, z⟩ := pre_next p g1 g2 g3 g4
    obtain ⟨rfl, e2⟩ := h3 a _ fa (follow_txM _ _) z
    refine ⟨es', by simp, ?_⟩
    rw [← e2]
    cases ds <;> simp [tlT]
theorem pre_end {s t : List Nat} {ds : List PyData} (p : Pre s t ds) (n : ds ≠ []) (h4 : ∀ l, t ≠ 44 :: l) (h1 : ∀ l, t ≠ 41 :: l) : Res s none := fun d r hd hr e => by
  obtain ⟨x, es, _, l3, _, hf, _, t2⟩ := formed_split hd hr e
  obtain ⟨es', _, z⟩ := p.un es r hf l3 hr t2
  cases ds with
  | nil => exact n rfl
  | cons b ds =>
    cases es' with
    | nil => exact h1 r (by simpa [tlT, txM] using z)
    | cons a es' => exact h4 _ (z.trans rfl)
theorem pre_done {s t : List Nat} {ds : List PyData} (hn : isNm (nmOf s) = true) (p : Pre s (41 :: t) ds) (n : ds ≠ []) : Res s (some (.tuple (.str (nmOf s) :: ds), t)) := by
  refine ⟨by simp [formedD, nameD, hn, p.fm, p.len], ?_, fun d' r' hd hr e => ?_⟩
  · refine (split_back s).symm.trans ?_
    rw [p.eq]
    show _ = ((nmOf s).cps.toList ++ txA ds) ++ t
    rw [nmOf_tl]
    cases ds with
    | nil => exact absurd rfl n
    | cons b ds => simp [hdT, txA]
  · obtain ⟨x, es, rfl, l3, hn, hf, t1, t2⟩ := formed_split hd hr e
    obtain ⟨es', rfl, z⟩ := p.un es r' hf l3 hr t2
    rw [nmOf_eq t1]
    cases ds with
    | nil => exact absurd rfl n
    | cons b ds =>
      cases es' with
      | nil =>
        have z : 41 :: t = 41 :: r' := by simpa [tlT, txM] using z
        cases z
        simp
      | cons a es' =>
        have z : 41 :: t = 44 :: _ := z
        cases z
end K13
/-! == and != of data, deep ones. -/
namespace Kx
open PySem PySem.Spec PyProof.Rows L2
section
variable {X : Cx}
/-- == and != of data, deep ones -/
def rEqF (K : PySem.W.Frag) : R2 := fun x y H Q => ∃ d e, Dp K H x d ∧ Dp K H y e ∧ d.canLay0 = true ∧ e.canLay0 = true ∧ d.depth ≤ 190 ∧ Q (.bl (PyData.eqv d e)) H
def rNeF (K : PySem.W.Frag) : R2 := fun x y H Q => ∃ d e, Dp K H x d ∧ Dp K H y e ∧ d.canLay0 = true ∧ e.canLay0 = true ∧ d.depth ≤ 190 ∧ Q (.bl (!PyData.eqv d e)) H
theorem op_eqF (hu : X.A.units + 200 < cLine) : OpR X (compareOp .Eq) (rEqF X.K) := by
  intro pins s σ H x y v u Q I rx ry h
  obtain ⟨d, e, hd, he, sd, se, z, q⟩ := h
  obtain ⟨as, r1⟩ := Dp.reads I d x v hd rx
  obtain ⟨bs, r2⟩ := Dp.reads I e y u he ry
  exact SeqAt.compareEq_reads r1 r2 sd se (by have := Nat.min_le_left d.depth e.depth; omega) ⟨.bl _, H, I, rfl, q⟩
theorem op_neF (hu : X.A.units + 200 < cLine) : OpR X (compareOp .NotEq) (rNeF X.K) := by
  intro pins s σ H x y v u Q I rx ry h
  obtain ⟨d, e, hd, he, sd, se, z, q⟩ := h
  obtain ⟨as, r1⟩ := Dp.reads I d x v hd rx
  obtain ⟨bs, r2⟩ := Dp.reads I e y u he ry
  exact SeqAt.compareNe_reads r1 r2 sd se (by have := Nat.min_le_left d.depth e.depth; omega) ⟨.bl _, H, I, rfl, q⟩
end
theorem room200 {k : Nat} {A : Around} (r : Room k A) : A.units + 200 < cLine := by
  have := r.un
  omega
end Kx
/-! Sizes. -/
namespace K13
open PySem PySem.Spec PyProof.Rows L2 Kx
theorem nm_ok {x : Str} (h : isNm x = true) : PyData.strOk x = true ∧ (reprText x).length ≤ 82 ∧ x.length ≤ 8 := by
  simp only [isNm, Bool.and_eq_true, decide_eq_true_eq] at h
  obtain ⟨⟨_, h8⟩, hl⟩ := h
  have each : ∀ c, c ∈ x.cps.toList → c ≤ 122 := fun c hc => by
    have := (Array.all_eq_true'.mp hl) c (Array.mem_toList_iff.mp hc)
    simp only [letter, Bool.and_eq_true, decide_eq_true_eq] at this
    exact this.2
  have r := StrLaws.reprText_len x (fun c hc => Nat.lt_of_le_of_lt (each c hc) (by decide))
  refine ⟨Array.all_eq_true'.mpr fun c hc => ?_, by omega, h8⟩
  have := each c (Array.mem_toList_iff.mpr hc)
  exact decide_eq_true (by omega)
/-- what the layer wants of data -/
structure Plain (d : PyData) : Prop where
  pure : pureD d = true
  short : shortD d = true
  sw : d.showable = true
  lay : d.canLay0 = true
  hd : d.hasDict = false
  nl : noL d = true
structure Plains (ds : List PyData) : Prop where
  pure : pureAll ds = true
  short : shortAll ds = true
  sw : PyData.showableAll ds = true
  lay : PyData.canLayAll0 ds = true
  hd : PyData.hasDictAll ds = false
  nl : noLs ds = true
theorem Plains.cons {d : PyData} {ds : List PyData} (h : Plain d) (t : Plains ds) : Plains (d :: ds) :=
  ⟨by simp [pureAll, h.pure, t.pure], by simp [shortAll, h.short, t.short], by simp [PyData.showableAll, h.sw, t.sw], by simp [PyData.canLayAll0, h.lay, t.lay], by simp [PyData.hasDictAll, h.hd, t.hd], by simp [noLs, h.nl, t.nl]⟩
theorem Plains.tup {ds : List PyData} (t : Plains ds) : Plain (.tuple ds) :=
  ⟨by simp [pureD, t.pure], by simp [shortD, t.short], by simp [PyData.showable, t.sw], by simp [PyData.canLay0, t.lay], by simp [PyData.hasDict, t.hd], by simp [noL, t.nl]⟩
theorem plain_name {d : PyData} (h : nameD d = true) : Plain d := by
  cases d with
  | str x =>
    have n := nm_ok (x := x) h
    exact ⟨rfl, by simp [shortD]; omega, rfl, by simp [PyData.canLay0, n.1], rfl, rfl⟩
  | _ => cases h
mutual
theorem plain_formed : ∀ d : PyData, formedD d = true → Plain d
  | .none, h => by cases h
  | .bool _, h => by cases h
  | .int _, h => by cases h
  | .str _, h => by cases h
  | .list _, h => by cases h
  | .dict _, h => by cases h
  | .tuple [], h => by cases h
  | .tuple (d :: ds), h => by
    simp only [formedD, Bool.and_eq_true] at h
    exact (Plains.cons (plain_name h.1.2) (plains_formed ds h.2)).tup
theorem plains_formed : ∀ ds : List PyData, formedAll ds = true → Plains ds
  | [], _ => ⟨rfl, rfl, rfl, rfl, rfl, rfl⟩
  | d :: ds, h => by
    simp only [formedAll, Bool.and_eq_true] at h
    exact Plains.cons (plain_formed d h.1) (plains_formed ds h.2)
end
/-- brackets opened and commas -/
def sc (l : List Nat) : Nat := l.countP fun c => decide (c = 40) || decide (c = 44)
theorem sc_app (a b : List Nat) : sc (a ++ b) = sc a + sc b := List.countP_append
theorem sc_name {x : Str} (h : isNm x = true) : sc x.cps.toList = 0 := by
  refine List.countP_eq_zero.mpr fun c hc => ?_
  have := (isNm_iff.mp h).2.2 c hc
  simp only [letter, Bool.and_eq_true, decide_eq_true_eq] at this
  simp
  omega
mutual
theorem rows_tx : ∀ (d : PyData), formedD d = true → (rowsD d).length = 1 + sc (tx d)
  | .none, h => by cases h
  | .bool _, h => by cases h
  | .int _, h => by cases h
  | .str _, h => by cases h
  | .list _, h => by cases h
  | .dict _, h => by cases h
  | .tuple [], h => by cases h
  | .tuple (d :: ds), h => by
    simp only [formedD, Bool.and_eq_true] at h
    cases d with
    | str x =>
      have e : tx (.tuple (.str x :: ds)) = x.cps.toList ++ txA ds := rfl
      rw [e, sc_app, sc_name h.1.2, rowsD, List.length_cons, rowsA_tx ds h.2]
      omega
    | _ => cases h.1.2
theorem rowsA_tx : ∀ (ds : List PyData), formedAll ds = true → (rowsAll ds).length = sc (txA ds)
  | [], _ => rfl
  | e :: es, h => by
    rw [formedAll, Bool.and_eq_true] at h
    have e1 : txA (e :: es) = [40] ++ (tx e ++ (txM es ++ [41])) := rfl
    rw [e1, sc_app, sc_app, sc_app, rowsAll, List.length_append, rows_tx e h.1, rowsM_tx es h.2, show sc [40] = 1 from rfl, show sc [41] = 0 from rfl]
    omega
theorem rowsM_tx : ∀ (ds : List PyData), formedAll ds = true → (rowsAll ds).length = sc (txM ds)
  | [], _ => rfl
  | e :: es, h => by
    rw [formedAll, Bool.and_eq_true] at h
    have e1 : txM (e :: es) = [44] ++ (tx e ++ txM es) := rfl
    rw [e1, sc_app, sc_app, rowsAll, List.length_append, rows_tx e h.1, rowsM_tx es h.2, show sc [44] = 1 from rfl]
    omega
end
theorem tx_pos {d : PyData} (h : formedD d = true) : 1 ≤ (tx d).length := by
  obtain ⟨z, zs, rfl, _, hz, _⟩ := formed_shape h
  have := (isNm_iff.mp hz).1
  show 1 ≤ (z.cps.toList ++ txA zs).length
  rw [List.length_append]
  omega
mutual
theorem depth_tx : ∀ (d : PyData), formedD d = true → 3 * d.depth ≤ (tx d).length + 2
  | .none, h => by cases h
  | .bool _, h => by cases h
  | .int _, h => by cases h
  | .str _, h => by cases h
  | .list _, h => by cases h
  | .dict _, h => by cases h
  | .tuple [], h => by cases h
  | .tuple (d :: []), h => by
    simp only [formedD, Bool.and_eq_true] at h
    cases d with
    | str x =>
      have := (isNm_iff.mp h.1.2).1
      have e : tx (.tuple [.str x]) = x.cps.toList ++ [] := rfl
      rw [e, List.append_nil]
      simp only [PyData.depth, PyData.depthAll]
      omega
    | _ => cases h.1.2
  | .tuple (d :: e :: es), h => by
    simp only [formedD, formedAll, Bool.and_eq_true] at h
    cases d with
    | str x =>
      have p1 := (isNm_iff.mp h.1.2).1
      have e1 : tx (.tuple (.str x :: e :: es)) = x.cps.toList ++ (40 :: (tx e ++ (txM es ++ [41]))) := rfl
      have i1 := depth_tx e h.2.1
      have i2 := depthM_tx es h.2.2
      rw [e1, List.length_append, List.length_cons, List.length_append, List.length_append]
      simp only [PyData.depth, PyData.depthAll, List.length_singleton]
      omega
    | _ => cases h.1.2
theorem depthM_tx : ∀ (ds : List PyData), formedAll ds = true → 3 * PyData.depthAll ds ≤ (txM ds).length + 2
  | [], _ => by simp [PyData.depthAll]
  | e :: es, h => by
    rw [formedAll, Bool.and_eq_true] at h
    have i1 := depth_tx e h.1
    have i2 := depthM_tx es h.2
    rw [PyData.depthAll, txM, List.length_cons, List.length_append]
    omega
end
def lnB : Nat → Nat
  | 0 => 0
  | n + 1 => 12 + 3 * lnB n
def rwB : Nat → Nat
  | 0 => 0
  | n + 1 => 1 + 3 * rwB n
theorem txM_le {m : Nat} : ∀ {ds : List PyData}, (∀ d, d ∈ ds → (tx d).length ≤ m) → (txM ds).length ≤ ds.length * (m + 1)
  | [], _ => Nat.zero_le _
  | e :: es, h => by
    have i := txM_le (ds := es) fun d hd => h d (List.mem_cons_of_mem _ hd)
    have j := h e List.mem_cons_self
    rw [txM, List.length_cons, List.length_append, List.length_cons, Nat.add_mul]
    omega
theorem rowsM_le {m : Nat} : ∀ {ds : List PyData}, (∀ d, d ∈ ds → (rowsD d).length ≤ m) → (rowsAll ds).length ≤ ds.length * m
  | [], _ => Nat.zero_le _
  | e :: es, h => by
    have i := rowsM_le (ds := es) fun d hd => h d (List.mem_cons_of_mem _ hd)
    have j := h e List.mem_cons_self
    rw [rowsAll, List.length_append, List.length_cons, Nat.add_mul]
    omega
theorem txA_le (es : List PyData) : (txA es).length ≤ (txM es).length + 1 := by
  cases es with
  | nil => exact Nat.zero_le _
  | cons e es =>
    simp only [txA, txM, List.length_cons, List.length_append]
    simp
    omega
theorem formed_bound : ∀ (n : Nat) (d : PyData), formedD d = true → d.depth ≤ n → (tx d).length ≤ lnB n ∧ (rowsD d).length ≤ rwB n
  | 0, d, h, hd => by
    obtain ⟨x, ds, rfl, _⟩ := formed_shape h
    simp [PyData.depth] at hd
  | n + 1, d, h, hd => by
    obtain ⟨x, ds, rfl, l3, hn, hf⟩ := formed_shape h
    have dd : PyData.depthAll ds ≤ n := by
      simp only [PyData.depth, PyData.depthAll] at hd
      omega
    have each : ∀ e, e ∈ ds → (tx e).length ≤ lnB n ∧ (rowsD e).length ≤ rwB n := fun e he => by
      obtain ⟨i, hi⟩ := List.getElem?_of_mem he
      exact formed_bound n e (formedAll_get hf hi) (Nat.le_trans (depthAll_get hi) dd)
    have h8 := (isNm_iff.mp hn).2.1
    have a1 := txM_le fun e he => (each e he).1
    have a2 := rowsM_le fun e he => (each e he).2
    have a3 := txA_le ds
    have e1 : tx (.tuple (.str x :: ds)) = x.cps.toList ++ txA ds := rfl
    refine ⟨?_, ?_⟩
    · rw [e1, List.length_append]
      show _ ≤ 12 + 3 * lnB n
      have : ds.length * (lnB n + 1) ≤ 3 * (lnB n + 1) := Nat.mul_le_mul_right _ l3
      omega
    · rw [rowsD, List.length_cons]
      show _ ≤ 1 + 3 * rwB n
      have : ds.length * rwB n ≤ 3 * rwB n := Nat.mul_le_mul_right _ l3
      omega
mutual
/-- tuples that begin with texts, all through -/
def treeD : PyData → Bool
  | .tuple (.str _ :: ds) => treeAll ds
  | _ => false
def treeAll : List PyData → Bool
  | [] => true
  | d :: ds => treeD d && treeAll ds
end
theorem treeAll_app (a b : List PyData) : treeAll (a ++ b) = (treeAll a && treeAll b) := by
  induction a with
  | nil => rfl
  | cons x a ih =>
    rw [List.cons_append, treeAll, treeAll, ih, Bool.and_assoc]
theorem treeAll_drop : ∀ {r : List PyData}, treeAll r = true → treeAll r.dropLast = true
  | [], _ => rfl
  | [d], _ => rfl
  | d :: e :: r, h => by
    rw [treeAll, Bool.and_eq_true] at h
    show treeAll (d :: (e :: r).dropLast) = true
    rw [treeAll, h.1, treeAll_drop h.2]
    rfl
theorem tree_step {m m' : PM} {w : Str} (h : ∀ r, r ∈ m.rs → treeAll r = true) (e : pstep m w = some m') : ∀ r, r ∈ m'.rs → treeAll r = true := by
  unfold pstep at e
  split at e
  · split at e
    · cases e
    · split at e
      · rename_i r rs er
        cases e
        rw [er] at h
        intro x hx
        rcases List.mem_cons.mp hx with rfl | hx
        · rw [treeAll_app, h r List.mem_cons_self]
          rfl
        · exact h x (List.mem_cons_of_mem _ hx)
      · cases e
  · split at e
    · split at e
      · split at e
        · rename_i r rs er
          cases e
          rw [er] at h
          intro x hx
          rcases List.mem_cons.mp hx with rfl | hx
          · rfl
          · rcases List.mem_cons.mp hx with rfl | hx
            · exact treeAll_drop (h r List.mem_cons_self)
            · exact h x (List.mem_cons_of_mem _ hx)
        · cases e
      · cases e
    · split at e
      · split at e
        · cases e
        · split at e
          · split at e
            · rename_i r r2 rs er
              cases e
              rw [er] at h
              intro x hx
              rcases List.mem_cons.mp hx with rfl | hx
              · rw [treeAll_app, h r2 (List.mem_cons_of_mem _ List.mem_cons_self)]
                show treeAll [PyData.tuple (.str _ :: r)] = true
                rw [treeAll, treeAll, treeD, h r List.mem_cons_self]
                rfl
              · exact h x (List.mem_cons_of_mem _ (List.mem_cons_of_mem _ hx))
            · cases e
          · cases e
            exact h
      · cases e
theorem tree_run : ∀ (ws : List Str) (m m' : PM), (∀ r, r ∈ m.rs → treeAll r = true) → prun ws m = some m' → ∀ r, r ∈ m'.rs → treeAll r = true
  | [], m, m', h, e => by
    cases e
    exact h
  | w :: ws, m, m', h, e => by
    have e : (pstep m w).bind (prun ws) = some m' := e
    cases k : pstep m w with
    | none =>
      rw [k] at e
      cases e
    | some m2 =>
      rw [k] at e
      exact tree_run ws m2 m' (tree_step h k) e
theorem tree_parse {ws : List Str} {d : PyData} (h : parseD ws = some d) : treeD d = true := by
  unfold parseD at h
  cases e : prun ws pm0 with
  | none =>
    rw [e] at h
    cases h
  | some m =>
    rw [e] at h
    have h : pout m = some d := h
    have t := tree_run ws pm0 m (fun r hr => by rw [List.mem_singleton.mp hr]; rfl) e
    unfold pout at h
    by_cases c : ended m.last = true ∧ m.hs = []
    · rw [if_pos c] at h
      obtain ⟨hs, rs, last⟩ := m
      cases rs with
      | nil => cases h
      | cons r rs =>
        have t := t r List.mem_cons_self
        cases r with
        | nil => cases h
        | cons a r =>
          have h : some a = some d := h
          cases h
          rw [treeAll, Bool.and_eq_true] at t
          exact t.1
    · rw [if_neg c] at h
      cases h
mutual
theorem tree_bound : ∀ (d : PyData), treeD d = true → szD d ≤ 2 * (tx d).length + 2 ∧ ((tx d).length ≤ 2000 → shortD d = true)
  | .none, h => by cases h
  | .bool _, h => by cases h
  | .int _, h => by cases h
  | .str _, h => by cases h
  | .list _, h => by cases h
  | .dict _, h => by cases h
  | .tuple [], h => by cases h
  | .tuple (.str x :: ds), h => by
    have h : treeAll ds = true := h
    have i := treeM_bound ds h
    have a := txA_le ds
    have b := txA_len ds
    have e : (tx (.tuple (.str x :: ds))).length = x.cps.toList.length + (txA ds).length := by
      show (x.cps.toList ++ txA ds).length = _
      rw [List.length_append]
    have lx : x.length = x.cps.toList.length := (Array.length_toList ..).symm
    rw [e]
    refine ⟨?_, fun l => ?_⟩
    · show (1 + szAll ds) + 1 ≤ _
      omega
    · show (decide (x.length ≤ 2000) && shortAll ds) = true
      rw [decide_eq_true (by omega), i.2 (by omega)]
      rfl
  | .tuple (.none :: _), h => by cases h
  | .tuple (.bool _ :: _), h => by cases h
  | .tuple (.int _ :: _), h => by cases h
  | .tuple (.list _ :: _), h => by cases h
  | .tuple (.tuple _ :: _), h => by cases h
  | .tuple (.dict _ :: _), h => by cases h
theorem treeM_bound : ∀ (ds : List PyData), treeAll ds = true → szAll ds ≤ 2 * (txM ds).length ∧ ((txM ds).length ≤ 2000 → shortAll ds = true)
  | [], _ => ⟨Nat.zero_le _, fun _ => rfl⟩
  | e :: es, h => by
    rw [treeAll, Bool.and_eq_true] at h
    have i1 := tree_bound e h.1
    have i2 := treeM_bound es h.2
    rw [txM, List.length_cons, List.length_append]
    refine ⟨?_, fun l => ?_⟩
    · show szD e + szAll es ≤ _
      omega
    · rw [shortAll, i1.2 (by omega), i2.2 (by omega)]
      rfl
end
theorem wd_len : ∀ {l : List (List Nat)}, (∀ w, w ∈ l → Wd w) → l.length ≤ l.flatten.length
  | [], _ => Nat.zero_le _
  | w :: l, h => by
    have i := wd_len (l := l) fun x hx => h x (List.mem_cons_of_mem _ hx)
    have j : 1 ≤ w.length := by
      rcases h w List.mem_cons_self with ⟨c, _, rfl⟩ | ⟨n, _⟩
      · exact Nat.le_refl _
      · cases w with
        | nil => exact absurd rfl n
        | cons a w => simp
    rw [List.length_cons, List.flatten_cons, List.length_append]
    omega
theorem words_len (x : Str) : (wordsOf x).length ≤ x.length := by
  by_cases al : Txt.isalpha (lettersOf x) = true
  · have e := words_A al
    obtain ⟨k1, k2⟩ := wkeep x.cps.toList ([], []) (fun w hw => nomatch hw) (fun c hc => nomatch hc)
    rw [← e] at k1 k2
    have k3 := wd_len k1
    rw [k2] at k3
    have k3 : (cs (wordsOf x)).length ≤ x.cps.toList.length := k3
    rw [List.length_map] at k3
    rwa [Array.length_toList] at k3
  · unfold wordsOf
    rw [if_neg al]
    exact Nat.zero_le _
/-- a term that is no cell, told twice, is no term -/
theorem twice {t d : PyData} (ht : formedD t = true) (n : ∀ x, t ≠ .tuple [.str x]) (hd : formedD d = true) : tx d ≠ tx t ++ tx t := by
  intro e
  have w1 := wtx d [] hd
  rw [e, List.foldl_append] at w1
  -- the first ends with a bracket
  have w2 := wtx t [] ht
  have st : ∃ ws, (tx t).foldl wstepA ([], []) = (ws, []) := by
    obtain ⟨x, ds, rfl, _, _, _⟩ := formed_shape ht
    cases ds with
    | nil => exact absurd rfl (n x)
    | cons a ds =>
      have e1 : tx (.tuple (.str x :: a :: ds)) = (x.cps.toList ++ 40 :: (tx a ++ txM ds)) ++ [41] := by
        show x.cps.toList ++ 40 :: (tx a ++ (txM ds ++ [41])) = _
        simp
      rw [e1, List.foldl_append]
      exact ⟨_, wsign (c := 41) _ (by decide)⟩
  obtain ⟨ws, st⟩ := st
  rw [st] at w1 w2
  have w2 : ws = cs (tk t) := by
    have : TL.wfin (ws, []) = ws := if_pos rfl
    rw [this] at w2
    simpa using w2
  rw [wtx t ws ht, w2] at w1
  have w3 : tk t ++ tk t = tk d := cs_inj (by simpa [cs] using w1)
  have p := parse_all hd
  rw [← w3] at p
  unfold parseD at p
  obtain ⟨l, en, r⟩ := run_tk t [] [] [] "(" ht (by decide)
  have r := r (tk t)
  have r : prun (tk t ++ tk t) pm0 = prun (tk t) ⟨[], ([] ++ [t]) :: [], l⟩ := r
  rw [r] at p
  obtain ⟨x, ds, rfl, _, hn, _⟩ := formed_shape ht
  obtain ⟨rest, k⟩ : ∃ rest, tk (.tuple (.str x :: ds)) = x :: rest := by
    cases ds with
    | nil => exact ⟨_, tk_cell x⟩
    | cons a ds => exact ⟨_, tk_tuple x (by simp)⟩
  rw [k] at p
  have : prun (x :: rest) ⟨[], ([] ++ [PyData.tuple (.str x :: ds)]) :: [], l⟩ = none := by
    show (pstep _ x).bind _ = none
    have : pstep ⟨[], ([] ++ [PyData.tuple (.str x :: ds)]) :: [], l⟩ x = none := by
      unfold pstep
      rw [if_pos (nm_alpha hn), if_pos en]
    rw [this]
    rfl
  rw [this] at p
  cases p
end K13
/-! read_term, what the law is told. -/
namespace K13
open PySem PySem.Spec PyProof.Rows L2 Kx
def toldX : PyData → Option PyData
  | .str y => toldD y
  | _ => none
def optD : Option PyData → PyData
  | none => .none
  | some d => d
section
variable {P : Program} {w : World} {K : PySem.W.Frag} {mg : Str → Option Value} {base : Heap}
def spRt (K : PySem.W.Frag) (C : Addr) : Sp := fun vs H Q E => ∃ (x : V) (d0 : PyData), vs = [x] ∧ Dx K H x d0 ∧ (∀ y, d0 = .str y → y.length ≤ 2000) ∧ (toldX d0 = none → ∀ H', Same H H' → E (.ref C) none H') ∧
  ∀ d, toldX d0 = some d → ∀ v H', Same H H' → Dx K H' v d → Q v H'
theorem ok_rt (T : Tx K mg) : FnOk P w K mg base (L2.CX P w) 6 T.aread_term T.dread_term ["text"] (spRt K T.CParseError) := by
  have nd := sc_read_term.nd
  have G1 := ok_words (P := P) (w := w) (base := base) T
  have G2 := ok_parsed (P := P) (w := w) (base := base) T
  have G3 := ok_term (P := P) (w := w) (base := base) T
  refine T.fread_term.okX sc_read_term (fun vs H Q E h => ?_) (fun cdv A outer s H vs Q E hr h => ?_)
  · obtain ⟨x, d, rfl, _⟩ := h
    rfl
  · obtain ⟨x, d0, rfl, hx, hl, q0, q1⟩ := h
    refine ⟨_, (C8.pss_cut (ps_set (i := 1) nd rfl (.inl rfl) (pe_ifExp (pt_val (pe_callB call_isi (by rfl) T.b_isinstance (by decide +kernel) (pa_cons (pv 0) (pa_cons (pe_bltn (v := .ty "str") (by rfl) T.b_str (by decide +kernel) rfl) pa_nil)))) (pe_call G2 (hr.mono (by omega)) (by rfl) T.gparsed T.fparsed.kp T.nparsed .nil pass0 (pa_cons (pe_call G1 (hr.mono (by omega)) (by rfl) T.gwords_in T.fwords_in.kp T.nwords_in .nil pass0 (pa_cons (pv 0) pa_nil)) pa_nil)) pe_non))
      (pss_cons (ps_if (pt_not (pt_val (pe_call G3 (hr.mono (by omega)) (by rfl) T.gis_term T.fis_term.kp T.nis_term .nil pass0 (pa_cons (pv 1) pa_nil)))) (pss_one (ps_raise rfl (takes_of rfl rfl rfl rfl) (pmk_own PySem.F.excBase_ValueError T.xParseError T.gParseError T.kParseError (raises_own T.bParseError T.tParseError) (by rfl)))) pss_nil)
      (pss_one (ps_ret (pv 1))))), ?_⟩
    refine ⟨fun σ' H' => ∃ (v : V) (d : PyData), σ' = [some x, some v] ∧ Same H H' ∧ Dx K H' v d ∧ shortD d = true ∧ szD d ≤ 100000 ∧ toldX d0 = (if termD d = true then some d else none), ?_, ?_⟩
    · refine ⟨x, rfl, x, .ty "str", _, _, _, rfl, .ty _, hx.ty, kit_ty (kit_str d0), _, rfl, ?_⟩
      cases d0 with
      | str y =>
        cases hx
        have ly := hl y rfl
        refine iteT ⟨_, rfl, y, rfl, ly, fun p np => ⟨p, wordsOf y, rfl, upd_same, Nat.le_trans (words_len y) (by omega), fun e H' sm => ?_, fun d e v H' sm dv => ?_⟩⟩
        · refine ⟨.non, .none, rfl, (same_put np).trans sm, .non, rfl, by decide, ?_⟩
          show toldD y = _
          unfold toldD
          rw [e]
          rfl
        · have et := told_sound e
          have tr := tree_bound d (tree_parse e)
          have lt : (tx d).length ≤ 2000 := by
            have : y.length = (tx d).length := by rw [et, tS_len]
            omega
          refine ⟨v, d, rfl, (same_put np).trans sm, dv, tr.2 lt, by omega, ?_⟩
          show toldD y = _
          unfold toldD
          rw [e]
          rfl
      | _ => exact iteF ⟨.non, .none, rfl, Same.refl H, .non, rfl, by decide, rfl⟩
    · rintro σ' H' ⟨v, d, rfl, sm, dv, sh, sz, et⟩
      refine ⟨_, rfl, v, d, rfl, ⟨dv, sh, sz⟩, fun H2 s2 => ⟨_, rfl, ?_⟩⟩
      cases t : termD d with
      | false =>
        rw [t] at et
        exact iteT (q0 et H2 (sm.trans s2))
      | true =>
        rw [t] at et
        exact iteF ⟨_, rfl, q1 d et v H2 (sm.trans s2) (dv.up s2)⟩
end
end K13
/-! The names of a turn. -/
namespace K13
open PySem PySem.Spec PyProof.Rows L2 Kx
/-- the heap without a -/
def Off (a : Addr) (H : Hp) : Hp := fun b => if b = a then none else H b
theorem Off.ne {a b : Addr} {H : Hp} (h : b ≠ a) : Off a H b = H b := if_neg h
theorem Off.of {a b : Addr} {H : Hp} {o : HO} (h : Off a H b = some o) : b ≠ a ∧ H b = some o := by
  unfold Off at h
  by_cases e : b = a
  · rw [if_pos e] at h
    cases h
  · rw [if_neg e] at h
    exact ⟨e, h⟩
theorem Off.same {a : Addr} {H : Hp} : Same (Off a H) H := fun b o h => (Off.of h).2
theorem But.off {a : Addr} {H H' : Hp} (h : But a H H') : Same (Off a H) (Off a H') := fun b o e => by
  obtain ⟨n, e⟩ := Off.of e
  rw [Off.ne n]
  exact h b o e n
abbrev Rw := Addr × NK
def rowO (r : NK) : HO := .tup [.str r.1, .int (r.2 : Int)]
/-- a list of rows at f -/
def RowsIn (H : Hp) (f : Addr) (zs : List Rw) : Prop := H f = some (.lst (zs.map fun z => V.ref z.1)) ∧ ∀ z, z ∈ zs → H z.1 = some (rowO z.2)
theorem RowsIn.up {H H' : Hp} {f : Addr} {zs : List Rw} (h : RowsIn H f zs) (e : Same H H') : RowsIn H' f zs := ⟨e _ _ h.1, fun z hz => e _ _ (h.2 z hz)⟩
theorem RowsIn.snoc {H : Hp} {f q : Addr} {zs : List Rw} {r : NK} (h : RowsIn H f zs) (n : H q = none) : RowsIn (upd (upd H q (rowO r)) f (.lst ((zs.map fun z => V.ref z.1) ++ [V.ref q]))) f (zs ++ [(q, r)]) := by
  have nf : q ≠ f := fun e => by
    rw [e, h.1] at n
    cases n
  refine ⟨by rw [upd_same, List.map_append]; rfl, fun z hz => ?_⟩
  rcases List.mem_append.mp hz with hz | hz
  · have := h.2 z hz
    rw [upd_ne (ne_of this h.1 (fun e => nomatch e)), upd_ne (ne_of_none this n)]
    exact this
  · rw [List.mem_singleton.mp hz, upd_ne nf, upd_same]
theorem RowsIn.len {zs : List Rw} : (zs.map fun z => V.ref z.1).length = zs.length := List.length_map ..
theorem Dice.ne {H : Hp} {a b : Addr} {n : Nat} (d : Dice H a n) (h : H b = none) : b ≠ a := fun e => by
  obtain ⟨_, _, _, z, _⟩ := d
  rw [e, z] at h
  cases h
theorem Dice.put {H : Hp} {a b : Addr} {n : Nat} {o : HO} (d : Dice H a n) (h : b ≠ a) : Dice (upd H b o) a n := d.same (upd_ne h.symm)
theorem But.free {a b : Addr} {H H' : Hp} (x : But a H H') (n : b ≠ a) (h : H' b = none) : H b = none := by
  cases e : H b with
  | none => rfl
  | some o =>
    rw [x b o e n] at h
    cases h
theorem But.put {a b : Addr} {H H' : Hp} {o : HO} (x : But a H H') (h : H b = none) : But a H (L2.upd H' b o) := fun c u hc nc => by
  rw [upd_ne (ne_of_none hc h)]
  exact x c u hc nc
theorem RowsIn.but {H H' : Hp} {a f : Addr} {n : Nat} {zs : List Rw} (h : RowsIn H f zs) (x : But a H H') (d : Dice H a n) (nf : f ≠ a) : RowsIn H' f zs := by
  obtain ⟨_, _, _, hz, _⟩ := d
  exact ⟨x _ _ h.1 nf, fun z m => x _ _ (h.2 z m) (ne_of (h.2 z m) hz (fun e => nomatch e))⟩
def pools : List (List Str) := [["a", "b", "c", "d"], ["a", "ab", "b", "ba"], ["x", "xin", "xout", "y"]]
def funcs : List Str := ["f", "g", "gg", "zzzzzzzz"]
def allN : List Str := pools.flatten ++ funcs
/-- good rows: names, few places, each name with its places; one without places -/
structure Good (l : List NK) : Prop where
  nm : ∀ r, r ∈ l → isNm r.1 = true ∧ r.2 ≤ 3
  fn : Func l
  cell : ∃ r, r ∈ l ∧ r.2 = 0
  few : l.length ≤ 20
  nd : (l.map Prod.fst).Nodup
  inn : ∀ r, r ∈ l → r.1 ∈ allN
  two : ∃ x y : Str, x ≠ y ∧ (x, 0) ∈ l ∧ (y, 0) ∈ l
theorem Good.perm {l m : List NK} (g : Good l) (h : l.Perm m) : Good m := by
  obtain ⟨x, y, n, m1, m2⟩ := g.two
  refine ⟨fun r hr => g.nm r (h.mem_iff.mpr hr), (Func.congr fun p => h.mem_iff).mp g.fn, ?_, by rw [← h.length_eq]; exact g.few, (h.map Prod.fst).nodup_iff.mp g.nd, fun r hr => g.inn r (h.mem_iff.mpr hr), x, y, n, h.mem_iff.mp m1, h.mem_iff.mp m2⟩
  obtain ⟨r, hr, e⟩ := g.cell
  exact ⟨r, h.mem_iff.mp hr, e⟩
theorem pools_ok : ∀ l, l ∈ pools → l.length = 4 ∧ l.Nodup ∧ ∀ x, x ∈ l → isNm x = true ∧ x ∉ funcs ∧ x ∈ allN := by decide +kernel
theorem funcs_ok : funcs.Nodup ∧ ∀ x, x ∈ funcs → isNm x = true ∧ x ∈ allN := by decide +kernel
theorem cut_upto {xs : List V} {i : Int} (h : 0 ≤ i) : cutV xs none (some i) = xs.take i.toNat := by
  obtain ⟨n, rfl⟩ := Int.eq_ofNat_of_zero_le h
  unfold cutV
  rw [show HT.sIx xs.length xs.length (some (n : Int)) = min n xs.length from HT.sIx_nat xs.length xs.length n, show HT.sIx xs.length 0 none = 0 from rfl, List.drop_zero, Nat.sub_zero, Int.toNat_natCast]
  by_cases e : n ≤ xs.length
  · rw [Nat.min_eq_left e]
  · rw [Nat.min_eq_right (by omega), List.take_length, List.take_of_length_le (by omega)]
theorem perm_back {α β : Type} {f : α → β} {l ys : List β} (h : l.Perm ys) : ∀ zs : List α, l = zs.map f → ∃ ws : List α, ws.Perm zs ∧ ys = ws.map f := by
  induction h with
  | nil =>
    intro zs e
    cases zs with
    | nil => exact ⟨[], List.Perm.refl _, rfl⟩
    | cons z zs => cases e
  | cons x _ ih =>
    intro zs e
    cases zs with
    | nil => cases e
    | cons z zs =>
      rw [List.map_cons] at e
      injection e with e1 e2
      obtain ⟨ws, p, q⟩ := ih zs e2
      exact ⟨z :: ws, p.cons z, by rw [List.map_cons, q, e1]⟩
  | swap x y l =>
    intro zs e
    cases zs with
    | nil => cases e
    | cons z zs =>
      cases zs with
      | nil => cases e
      | cons z2 zs =>
        rw [List.map_cons, List.map_cons] at e
        injection e with e1 e2
        injection e2 with e2 e3
        exact ⟨z2 :: z :: zs, List.Perm.swap _ _ _, by rw [List.map_cons, List.map_cons, e1, e2, e3]⟩
  | trans _ _ ih1 ih2 =>
    intro zs e
    obtain ⟨ws, p, q⟩ := ih1 zs e
    obtain ⟨vs, p2, q2⟩ := ih2 ws q
    exact ⟨vs, p2.trans p, q2⟩
theorem nodup_inj {α β : Type} {f : α → β} : ∀ {l : List α} {x y : α}, (l.map f).Nodup → x ∈ l → y ∈ l → f x = f y → x = y
  | [], _, _, _, h, _, _ => nomatch h
  | z :: l, x, y, nd, hx, hy, e => by
    rw [List.map_cons, List.nodup_cons] at nd
    rcases List.mem_cons.mp hx with h1 | h1
    · rcases List.mem_cons.mp hy with h2 | h2
      · rw [h1, h2]
      · exact absurd (List.mem_map.mpr ⟨y, h2, by rw [← e, h1]⟩) nd.1
    · rcases List.mem_cons.mp hy with h2 | h2
      · exact absurd (List.mem_map.mpr ⟨x, h1, by rw [e, h2]⟩) nd.1
      · exact nodup_inj nd.2 h1 h2 e
/-- a row as an item to be sorted -/
def rowI (z : Rw) : V × PyData := (V.ref z.1, PyData.tuple [.str z.2.1, .int (z.2.2 : Int)])
section
variable {P : Program} {w : World} {K : PySem.W.Frag} {mg : Str → Option Value} {base : Heap}
def spNames (K : PySem.W.Frag) : Sp := fun vs H Q _ => ∃ (a : Addr) (n : Nat), vs = [.ref a, .int 2] ∧ Dice H a n ∧ n + 100 < cap ∧
  ∀ (p : Addr) (zs : List Rw) H', But a H H' → Dice H' a (n + 100) → H p = none → p ≠ a → RowsIn H' p zs → Good (zs.map Prod.snd) → Q (.ref p) H'
theorem ok_names (T : Tx K mg) : FnOk P w K mg base CX0 3 T.a_law_names T.d_law_names ["dice", "few"] (spNames K) := by
  have nd := sc__law_names.nd
  have G1 := ok_roll (P := P) (w := w) (base := base) T
  have G2 := ok_pick (P := P) (w := w) (base := base) T
  have G3 := ok_mixed (P := P) (w := w) (base := base) T
  refine T.f_law_names.ok sc__law_names (fun vs H Q E h => ?_) (fun cdv A outer s H vs Q E hr h => ?_)
  · obtain ⟨a, n, rfl, _⟩ := h
    rfl
  · obtain ⟨a, n, rfl, hd, hn, q⟩ := h
    refine ⟨_, (pss_cons (ps_set (i := 2) nd rfl (.inl rfl) (pe_lst (pa_cons (pe_lst (pa_cons pe_str (pa_cons pe_str (pa_cons pe_str (pa_cons pe_str pa_nil))))) (pa_cons (pe_lst (pa_cons pe_str (pa_cons pe_str (pa_cons pe_str (pa_cons pe_str pa_nil))))) (pa_cons (pe_lst (pa_cons pe_str (pa_cons pe_str (pa_cons pe_str (pa_cons pe_str pa_nil))))) pa_nil)))))
      (C8.pss_cut (ps_set (i := 3) nd rfl (.inl rfl) (pe_call G3 (hr.mono (by omega)) (by rfl) T.g_law_mixed T.f_law_mixed.kp T.n_law_mixed .nil pass0 (pa_cons (pv 0) (pa_cons (pe_call G2 (hr.mono (by omega)) (by rfl) T.g_law_pick T.f_law_pick.kp T.n_law_pick .nil pass0 (pa_cons (pv 0) (pa_cons (pv 2) pa_nil))) pa_nil))))
      (pss_cons (ps_setLc (i := 5) (own := [("name", 4)]) (g := (gName 4)) (tt := tYes) (by rfl) nd rfl rfl (sw_true rfl rfl rfl (by decide +kernel)) (pi_list (pe_slice sl_list (pv 3) po_none (po_some (pe_op op_add pe_int (pe_call G1 (hr.mono (by omega)) (by rfl) T.g_law_roll T.f_law_roll.kp T.n_law_roll .nil pass0 (pa_cons (pv 0) (pa_cons pe_int pa_nil))))))) (blkOk_by (own := [("name", 4)]) (N := N__law_names) (sc := defScope s__law_names) (by decide +kernel)) (fun _ _ _ _ _ => pg_name (i := 4) nd rfl (.inl rfl)) (fun _ _ _ _ _ => pts_nil) (fun _ _ _ _ _ => (pe_tup (pa_cons (pv 4) (pa_cons pe_int pa_nil)))))
      (pss_cons (ps_for PassesOwn.never rfl (pi_list (pe_slice sl_list (pe_call G3 (hr.mono (by omega)) (by rfl) T.g_law_mixed T.f_law_mixed.kp T.n_law_mixed .nil pass0 (pa_cons (pv 0) (pa_cons (pe_lst (pa_cons pe_str (pa_cons pe_str (pa_cons pe_str (pa_cons pe_str pa_nil))))) pa_nil))) po_none (po_some (pe_op op_add pe_int (pe_call G1 (hr.mono (by omega)) (by rfl) T.g_law_roll T.f_law_roll.kp T.n_law_roll .nil pass0 (pa_cons (pv 0) (pa_cons (pv 1) pa_nil))))))) (pg_name (i := 4) nd rfl (.inl rfl)) (pss_one (ps_expr (pe_bm PySem.F.plainAttrs_list PySem.F.slot_list_append PySem.F.type_list_append mt_append (pv 5) (pa_cons (pe_tup (pa_cons (pv 4) (pa_cons (pe_op op_add pe_int (pe_callB (call_max2 rfl) (by rfl) T.b_max (by decide +kernel) (pa_cons pe_int (pa_cons (pe_op op_sub (pe_call G1 (hr.mono (by omega)) (by rfl) T.g_law_roll T.f_law_roll.kp T.n_law_roll .nil pass0 (pa_cons (pv 0) (pa_cons pe_int pa_nil))) pe_int) pa_nil)))) pa_nil))) pa_nil)))))
      (pss_one (ps_ret (pe_callB (cr_sortedD hr.units) (by rfl) T.b_sorted (by decide +kernel) (pa_cons (pv 5) pa_nil)))))))), ?_⟩
    -- pools
    refine ⟨(by show 4 ≤ sizeLine; decide), fun p1 n1 => ⟨(by show 4 ≤ sizeLine; decide), fun p2 n2 => ⟨(by show 4 ≤ sizeLine; decide), fun p3 n3 => ⟨(by show 3 ≤ sizeLine; decide), fun pl n4 => ?_⟩⟩⟩⟩
    have s1 := same_new (o := .lst [.str "a", .str "b", .str "c", .str "d"]) n1
    have s2 := same_new (o := .lst [.str "a", .str "ab", .str "b", .str "ba"]) n2
    have s3 := same_new (o := .lst [.str "x", .str "xin", .str "xout", .str "y"]) n3
    have s4 := same_new (o := .lst [.ref p1, .ref p2, .ref p3]) n4
    have dH := hd
    obtain ⟨i0, i1, i2, ha, _⟩ := dH
    have hpl : ∀ v, v ∈ [V.ref p1, .ref p2, .ref p3] → ∃ b l, v = .ref b ∧ l ∈ pools ∧ b ≠ a ∧ (upd (upd (upd (upd H p1 (.lst [.str "a", .str "b", .str "c", .str "d"])) p2 (.lst [.str "a", .str "ab", .str "b", .str "ba"])) p3 (.lst [.str "x", .str "xin", .str "xout", .str "y"])) pl (.lst [.ref p1, .ref p2, .ref p3])) b = some (.lst (l.map V.str)) := by
      intro v hv
      have na : ∀ {G : Hp} {b : Addr}, Same H G → G b = none → b ≠ a := fun sm e z => by
        rw [z, sm _ _ ha] at e
        cases e
      rcases List.mem_cons.mp hv with rfl | hv
      · exact ⟨p1, ["a", "b", "c", "d"], rfl, .head _, na (Same.refl H) n1, s4 _ _ (s3 _ _ (s2 _ _ upd_same))⟩
      · rcases List.mem_cons.mp hv with rfl | hv
        · exact ⟨p2, ["a", "ab", "b", "ba"], rfl, .tail _ (.head _), na s1 n2, s4 _ _ (s3 _ _ upd_same)⟩
        · cases List.mem_singleton.mp hv
          exact ⟨p3, ["x", "xin", "xout", "y"], rfl, .tail _ (.tail _ (.head _)), na (s1.trans s2) n3, s4 _ _ upd_same⟩
    have npa : pl ≠ a := fun z => by
      rw [z, s3 _ _ (s2 _ _ (s1 _ _ ha))] at n4
      cases n4
    refine ⟨fun σ' H' => But a H H' ∧ Dice H' a (n + 5) ∧ ∃ (c : Addr) (ys : List Str), σ' = [some (.ref a), some (.int 2), some (.ref pl), some (.ref c), none, none] ∧ c ≠ a ∧ H' c = some (.lst (ys.map V.str)) ∧ ys.length = 4 ∧ ys.Nodup ∧ ∀ x, x ∈ ys → isNm x = true ∧ x ∉ funcs ∧ x ∈ allN, ?_, ?_⟩
    · refine ⟨.ref a, rfl, .ref a, rfl, .ref pl, rfl, a, pl, n, _, rfl, ((((hd.up s1).up s2).up s3).up s4), by omega, .inl (.inl upd_same), npa, Nat.zero_lt_succ _, (by show 3 < 1000000; decide), fun i v H' bt dd hi => ?_⟩
      obtain ⟨b, l, rfl, hl, hb, eb⟩ := hpl v (List.mem_of_getElem? hi)
      obtain ⟨l4, lnd, lp⟩ := pools_ok l hl
      have eb' := bt _ _ eb hb
      refine ⟨a, b, n + 1, l.map V.str, rfl, dd, by rw [List.length_map]; omega, .inl (.inl eb'), hb, by rw [List.length_map]; omega, fun ys c H2 bt2 dd2 pm nc nca ec => ?_⟩
      obtain ⟨ws, pw, rfl⟩ := perm_back pm.symm l rfl
      rw [List.length_map, l4] at dd2
      exact ⟨(But.of (s1.trans (s2.trans (s3.trans s4)))).trans (bt.trans bt2), dd2, c, ws, rfl, nca, ec, by rw [pw.length_eq, l4], pw.nodup_iff.mpr lnd, fun x hx => lp x (pw.mem_iff.mp hx)⟩
    rintro σ1 H1 ⟨bt1, dd1, c, ys, rfl, nca, ec, y4, ynd, hy⟩
    -- the cells
    refine ⟨_, rfl, _, rfl, a, n + 5, 3, rfl, dd1, by omega, by decide, by decide, fun r H2 bt2 dd2 r0 r1 => ⟨2, r, rfl, rfl, _, rfl, c, _, rfl, .inl (.inl (bt2 _ _ ec nca)), fun e ne => ⟨e, rfl, ⟨_, .inl (.inl upd_same)⟩, fun D nD => ?_⟩⟩⟩
    rw [cut_upto (by omega), ← List.map_take] at nD ⊢
    have nea := dd2.ne ne
    have sne := same_new (o := .lst ((ys.take (2 + r).toNat).map V.str)) ne
    have nDa := (dd2.up sne).ne nD
    have nDH := But.free (bt1.trans (bt2.trans (But.of sne))) nDa nD
    have lc : (ys.take (2 + r).toNat).length ≤ 4 ∧ 2 ≤ (ys.take (2 + r).toNat).length := by
      rw [List.length_take]
      omega
    have hc : ∀ x, x ∈ ys.take (2 + r).toNat → isNm x = true ∧ x ∉ funcs ∧ x ∈ allN := fun x hx => hy x (List.mem_of_mem_take hx)
    have cnd : (ys.take (2 + r).toNat).Nodup := List.Nodup.sublist (List.take_sublist _ _) ynd
    generalize ys.take (2 + r).toNat = cs at lc hc cnd nD sne
    refine lc_list (K := K) (a := e) (xs := cs.map V.str) (fun i H3 => But a H H3 ∧ Dice H3 a (n + 6) ∧ H3 e = some (.lst (cs.map V.str)) ∧ ∃ zs : List Rw, RowsIn H3 D zs ∧ zs.map Prod.snd = (cs.take i).map fun x => (x, 0))
      ⟨bt1.trans (bt2.trans (But.of (sne.trans (same_new nD)))), dd2.up (sne.trans (same_new nD)), same_new nD _ _ upd_same, [], ⟨upd_same, fun z hz => (nomatch hz)⟩, by simp⟩ (fun i H3 _ h => .inl (.inl h.2.2.1)) ?_ ?_
    · rintro i y H3 hi ⟨bt3, dd3, ee, zs, ri, em⟩
      rw [List.getElem?_map] at hi
      obtain ⟨x, hx, rfl⟩ := Option.map_eq_some_iff.mp hi
      have lt : i < cs.length := (List.getElem?_eq_some_iff.mp hx).1
      have lz : zs.length = i := by
        have := congrArg List.length em
        simp only [List.length_map, List.length_take] at this
        omega
      refine ⟨rfl, (iteT (B := False) ?_ : if true = true then _ else False)⟩
      refine ⟨_, rfl, (by show 2 ≤ sizeLine; decide), fun q nq => ?_⟩
      have nqD : D ≠ q := ne_of_none ri.1 nq
      have smq := same_new (o := rowO (x, 0)) nq
      have neD : e ≠ D := fun z => by
        rw [z, upd_same] at nD
        cases nD
      refine ⟨zs.map fun z => V.ref z.1, by rw [upd_ne nqD]; exact ri.1, by rw [List.length_map]; exact small1000 (by omega), (bt3.trans (But.of smq)).put nDH, (dd3.up smq).put nDa, ?_, zs ++ [(q, (x, 0))], ri.snoc (r := (x, 0)) nq, ?_⟩
      · rw [upd_ne neD]
        exact smq _ _ ee
      · rw [List.map_append, em, List.take_add_one, hx, List.map_append]
        rfl
    rintro H3 ⟨bt3, dd3, ee, zs, ri, em⟩
    rw [List.length_map, List.take_length] at em
    clear ee sne
    -- the others
    refine ⟨_, rfl, (by show 4 ≤ sizeLine; decide), fun g ng => ⟨a, g, n + 6, funcs.map V.str, rfl, dd3.up (same_new ng), by show n + 6 + 4 < cap; omega, .inl (.inl upd_same), dd3.ne ng, by decide, fun fs p H4 bt4 dd4 pm np npa' ep => ?_⟩⟩
    obtain ⟨ws, pw, rfl⟩ := perm_back pm.symm funcs rfl
    have dd4 : Dice H4 a (n + 10) := dd4
    have ri4 := (ri.up (same_new (o := .lst (funcs.map V.str)) ng)).but bt4 (dd3.up (same_new ng)) nDa
    have bt4 := bt3.trans ((But.of (same_new (o := .lst (funcs.map V.str)) ng)).trans bt4)
    refine ⟨_, rfl, _, rfl, a, n + 10, 2, rfl, dd4, by omega, by decide, by decide, fun r5 H5 bt5 dd5 r50 r51 => ⟨1, r5, rfl, rfl, _, rfl, p, _, rfl, .inl (.inl (bt5 _ _ ep npa')), fun u nu => ⟨u, rfl, ⟨_, .inl (.inl upd_same)⟩, ?_⟩⟩⟩
    rw [cut_upto (by omega), ← List.map_take]
    have nus : u ≠ D := (ne_of_none (ri4.but bt5 dd4 nDa).1 nu).symm
    have smu := same_new (o := .lst ((ws.take (1 + r5).toNat).map V.str)) nu
    have nua := dd5.ne nu
    have lf : (ws.take (1 + r5).toNat).length ≤ 3 := by
      rw [List.length_take]
      omega
    have ndw : (ws.take (1 + r5).toNat).Nodup := List.Nodup.sublist (List.take_sublist _ _) (pw.nodup_iff.mpr funcs_ok.1)
    have hw : ∀ x, x ∈ ws.take (1 + r5).toNat → x ∈ funcs := fun x hx => pw.mem_iff.mp (List.mem_of_mem_take hx)
    have bt6 := bt4.trans (bt5.trans (But.of smu))
    have dd6 := dd5.up smu
    have ri6 := (ri4.but bt5 dd4 nDa).up smu
    generalize ws.take (1 + r5).toNat = us at lf ndw hw bt6 dd6 ri6 ⊢
    clear smu
    have lcz : zs.length = cs.length := by
      have := congrArg List.length em
      simpa only [List.length_map] using this
    refine for_list (K := K) (a := u) (xs := us.map V.str) (fun i σ H7 => But a H H7 ∧ Dice H7 a (n + 11 + i) ∧ H7 u = some (.lst (us.map V.str)) ∧ ∃ (y : Option V) (fr : List Rw), σ = [some (.ref a), some (.int 2), some (.ref pl), some (.ref c), y, some (.ref D)] ∧ RowsIn H7 D (zs ++ fr) ∧ fr.map (fun z => z.2.1) = us.take i ∧ ∀ z, z ∈ fr → z.2.2 ≤ 3)
      ⟨bt6, dd6, upd_same, none, [], rfl, by rw [List.append_nil]; exact ri6, by simp, fun z hz => (nomatch hz)⟩ (fun i σ H3 _ h => .inl (.inl h.2.2.1)) ?_ ?_
    · rintro i y σ H7 hi ⟨bt7, dd7, eu, y0, fr, rfl, ri7, em7, h7⟩
      rw [List.getElem?_map] at hi
      obtain ⟨x, hx, rfl⟩ := Option.map_eq_some_iff.mp hi
      have lt : i < us.length := (List.getElem?_eq_some_iff.mp hx).1
      refine ⟨_, rfl, .inl ⟨rfl, _, .inl (.inl ri7.1)⟩, _, rfl, _, rfl, a, n + 11 + i, 5, rfl, dd7, by omega, by decide, by decide, fun r8 H8 bt8 dd8 r80 r81 => ⟨r8, 2, rfl, rfl, 0, r8 - 2, rfl, 1, _, rfl, rfl, (by show 2 ≤ sizeLine; decide), fun q nq => ?_⟩⟩
      have ri8 := ri7.but bt8 dd7 nDa
      obtain ⟨k, hk, ek⟩ : ∃ k : Nat, k ≤ 3 ∧ (1 + if r8 - 2 > 0 then r8 - 2 else 0 : Int) = k := by
        refine ⟨(1 + if r8 - 2 > 0 then r8 - 2 else 0 : Int).toNat, ?_, ?_⟩ <;> split <;> omega
      dsimp only
      rw [ek]
      have smq := same_new (o := rowO (x, k)) nq
      have eq8 := smq _ _ ri8.1
      have lfr : fr.length ≤ 3 := by
        have := congrArg List.length em7
        simp only [List.length_map, List.length_take] at this
        omega
      refine ⟨D, _, .ref q, rfl, rfl, eq8, by rw [List.length_map, List.length_append]; exact small1000 (by omega), (bt7.trans (bt8.trans (But.of smq))).put nDH, ((dd8.up smq).put nDa).le (by omega), ?_, some (.str x), fr ++ [(q, (x, k))], rfl, ?_, ?_, fun z hz => ?_⟩
      · rw [upd_ne nus]
        exact smq _ _ (bt8 _ _ eu nua)
      · rw [← List.append_assoc]
        exact ri8.snoc (r := (x, k)) nq
      · rw [List.map_append, em7, List.take_add_one, hx]
        rfl
      · rcases List.mem_append.mp hz with hz | hz
        · exact h7 z hz
        · rw [List.mem_singleton.mp hz]
          exact hk
    · rintro σ H7 ⟨bt7, dd7, eu, y0, fr, rfl, ri7, em7, h7⟩
      rw [List.length_map, List.take_length] at em7
      have lfr : fr.length ≤ 3 := by
        have := congrArg List.length em7
        simp only [List.length_map] at this
        omega
      -- sorted
      have eI : ∀ l : List Rw, (l.map rowI).map Prod.fst = l.map fun z => V.ref z.1 := fun l => by rw [List.map_map]; rfl
      have eS : ∀ l : List Rw, (l.map rowI).map Prod.snd = l.map fun z => PyData.tuple [.str z.2.1, .int (z.2.2 : Int)] := fun l => by rw [List.map_map]; rfl
      refine ⟨_, rfl, D, (zs ++ fr).map rowI, rfl, by rw [eI]; exact .inl (.inl ri7.1), fun z hz => ?_, ?_, ?_, by rw [List.length_map, List.length_append]; exact Nat.le_of_lt (small1000 (by omega)), fun z hz => ?_, fun p np => ?_⟩
      · obtain ⟨z, hz2, rfl⟩ := List.mem_map.mp hz
        exact .tup (.inl (.inl (ri7.2 z hz2))) (.cons (.str _) (.cons (.int _) .nil))
      · rw [eS]
        exact PySem.W.AllAlike.of fun b b' => rfl
      · rw [eS]
        exact PySem.W.Sortable.tuples fun b => ⟨_, _, rfl⟩
      · obtain ⟨z, hz2, rfl⟩ := List.mem_map.mp hz
        show PyData.depth (.tuple [.str z.2.1, .int (z.2.2 : Int)]) ≤ 60
        simp [PyData.depth, PyData.depthAll]
      · obtain ⟨ws2, pw2, ew2⟩ := perm_back (List.mergeSort_perm ((zs ++ fr).map rowI) (PySem.W.dataLe false Prod.snd)).symm (zs ++ fr) rfl
        rw [ew2, eI]
        have npa2 := dd7.ne np
        have smp := same_new (o := .lst (ws2.map fun z => V.ref z.1)) np
        refine q p ws2 _ (bt7.trans (But.of smp)) ((dd7.up smp).le ?_) (But.free bt7 npa2 np) npa2 ⟨upd_same, fun z hz => smp _ _ (ri7.2 z (pw2.mem_iff.mp hz))⟩ ?_
        · rw [List.length_map]
          omega
        · refine Good.perm ?_ (pw2.map Prod.snd).symm
          rw [List.map_append, em]
          refine ⟨fun r hr => ?_, ?_, ?_, ?_, ?_, fun r hr => ?_, ?_⟩
          · rcases List.mem_append.mp hr with h | h
            · obtain ⟨x, hx, rfl⟩ := List.mem_map.mp h
              exact ⟨(hc x hx).1, Nat.zero_le _⟩
            · obtain ⟨z, hz, rfl⟩ := List.mem_map.mp h
              refine ⟨(funcs_ok.2 _ (hw _ ?_)).1, h7 z hz⟩
              rw [← em7]
              exact List.mem_map.mpr ⟨z, hz, rfl⟩
          · have inF : ∀ r, r ∈ fr.map Prod.snd → r.1 ∈ funcs := fun r hr => by
              obtain ⟨z, hz, rfl⟩ := List.mem_map.mp hr
              refine hw _ ?_
              rw [← em7]
              exact List.mem_map.mpr ⟨z, hz, rfl⟩
            have inC : ∀ r, r ∈ (cs.map fun x => ((x, 0) : NK)) → r.1 ∉ funcs ∧ r.2 = 0 := fun r hr => by
              obtain ⟨x, hx, rfl⟩ := List.mem_map.mp hr
              exact ⟨(hc x hx).2.1, rfl⟩
            intro r hr t ht e
            rcases List.mem_append.mp hr with h1 | h1
            · rcases List.mem_append.mp ht with h2 | h2
              · rw [(inC r h1).2, (inC t h2).2]
              · have z := (inC r h1).1
                rw [e] at z
                exact absurd (inF t h2) z
            · rcases List.mem_append.mp ht with h2 | h2
              · have z := (inC t h2).1
                rw [← e] at z
                exact absurd (inF r h1) z
              · obtain ⟨x, hx, rfl⟩ := List.mem_map.mp h1
                obtain ⟨y, hy, rfl⟩ := List.mem_map.mp h2
                rw [nodup_inj (f := fun z : Rw => z.2.1) (by rw [em7]; exact ndw) hx hy e]
          · cases cs with
            | nil =>
              simp at lc
            | cons x cs => exact ⟨(x, 0), List.mem_append_left _ (List.mem_map.mpr ⟨x, List.mem_cons_self, rfl⟩), rfl⟩
          · rw [List.length_append, List.length_map, List.length_map]
            omega
          · rw [List.map_append, List.map_map, show (Prod.fst ∘ fun x => ((x, 0) : NK)) = id from rfl, List.map_id, List.map_map, show (Prod.fst ∘ Prod.snd : Rw → Str) = (fun z => z.2.1) from rfl, em7, List.nodup_append]
            exact ⟨cnd, ndw, fun x hx y hy e => (hc x hx).2.1 (e ▸ hw y hy)⟩
          · rcases List.mem_append.mp hr with h | h
            · obtain ⟨x, hx, rfl⟩ := List.mem_map.mp h
              exact (hc x hx).2.2
            · obtain ⟨z, hz, rfl⟩ := List.mem_map.mp h
              refine (funcs_ok.2 _ (hw _ ?_)).2
              rw [← em7]
              exact List.mem_map.mpr ⟨z, hz, rfl⟩
          · match cs, lc, cnd with
            | x :: y :: cs, _, cnd =>
              rw [List.nodup_cons] at cnd
              exact ⟨x, y, fun e => cnd.1 (e ▸ List.mem_cons_self), List.mem_append_left _ (by simp), List.mem_append_left _ (by simp)⟩
            | [_], lc, _ => simp at lc
            | [], lc, _ => simp at lc
end
end K13
/-! A term of the turn, drawn. -/
namespace K13
open PySem PySem.Spec PyProof.Rows L2 Kx
theorem RowsIn.add {H : Hp} {f : Addr} {zs : List Rw} {z : Rw} (h : RowsIn H f zs) (n : H z.1 = some (rowO z.2)) : RowsIn (upd H f (.lst ((zs.map fun z => V.ref z.1) ++ [V.ref z.1]))) f (zs ++ [z]) := by
  refine ⟨by rw [upd_same, List.map_append]; rfl, fun y hy => ?_⟩
  have e : H y.1 = some (rowO y.2) := by
    rcases List.mem_append.mp hy with hy | hy
    · exact h.2 y hy
    · rw [List.mem_singleton.mp hy]
      exact n
  rw [upd_ne (ne_of e h.1 (fun e => nomatch e))]
  exact e
theorem RowsIn.off {H : Hp} {f D : Addr} {zs : List Rw} {xs ys : List V} (h : RowsIn H f zs) (e : H D = some (.lst xs)) (n : D ≠ f) : RowsIn (upd H D (.lst ys)) f zs := by
  refine ⟨by rw [upd_ne n.symm]; exact h.1, fun z hz => ?_⟩
  rw [upd_ne (ne_of (h.2 z hz) e (fun e => nomatch e))]
  exact h.2 z hz
def cost : Nat → Nat
  | 0 => 0
  | n + 1 => 2 + 3 * cost n
/-- a term with names of rs, n levels at most -/
structure Tm (rs : List NK) (n : Nat) (d : PyData) : Prop where
  fm : formedD d = true
  rw : ∀ r, r ∈ rowsD d → r ∈ rs
  dp : d.depth ≤ n
section
variable {K : PySem.W.Frag}
/-- the rows without places, a new list -/
theorem cells_rd {y0 y2 y3 y4 y5 y6 y7 : Option V} {H : Hp} {b : Addr} {zs : List Rw} {Q : VK} (ri : RowsIn H b zs) (gd : Good (zs.map Prod.snd))
    (q : ∀ (D : Addr) (ws : List Rw) (H3 : Hp), Same H H3 → H D = none → RowsIn H3 D ws → (∀ z, z ∈ ws → z ∈ zs ∧ z.2.2 = 0) → ws ≠ [] → ws.length ≤ 20 → Q (.ref D) H3) :
    tLc (iList K (tVar 1)) (gName 6) (tTest (tOp rEq (tOp (rIxT K) (tVar 6) (tC (.int 1))) (tC (.int 0)))) (tVar 6) [6] [y0, some (.ref b), y2, y3, y4, y5, y6, y7] H Q := by
  have lzs : zs.length ≤ 20 := by
    have := gd.few
    rwa [List.length_map] at this
  refine ⟨_, rfl, b, rfl, ⟨_, .inl (.inl ri.1)⟩, fun D nD => ?_⟩
  have smD := same_new (o := .lst []) nD
  refine lc_list (K := K) (a := b) (xs := zs.map fun z => V.ref z.1) (fun i H3 => Same H H3 ∧ ∃ ws : List Rw, RowsIn H3 D ws ∧ (∀ z, z ∈ ws → z ∈ zs ∧ z.2.2 = 0) ∧ (∀ (j : Nat) z, j < i → zs[j]? = some z → z.2.2 = 0 → z ∈ ws) ∧ ws.length ≤ i)
    ⟨smD, [], ⟨upd_same, fun z hz => (nomatch hz)⟩, fun z hz => (nomatch hz), fun j z h => absurd h (Nat.not_lt_zero _), Nat.le_refl _⟩ (fun i H3 _ h => .inl (.inl (h.1 _ _ ri.1))) ?_ ?_
  · rintro i y H3 hi ⟨sm, ws, rw3, h1, h2, l3⟩
    rw [List.getElem?_map] at hi
    obtain ⟨z, hz, rfl⟩ := Option.map_eq_some_iff.mp hi
    have lt : i < zs.length := (List.getElem?_eq_some_iff.mp hz).1
    have ez := sm _ _ (ri.2 z (List.mem_of_getElem? hz))
    refine ⟨rfl, _, rfl, z.1, _, 1, .int (z.2.2 : Int), rfl, rfl, SqT.of ez, atI_nat (j := 1) rfl, rfl, _, rfl, ite2 (fun e0 => ?_) (fun e0 => ?_)⟩
    · have z0 : z.2.2 = 0 := by
        have := of_decide_eq_true (p := V.int (z.2.2 : Int) = V.int 0) e0
        injection this with this
        exact Int.ofNat.inj this
      refine ⟨_, rfl, _, rw3.1, by rw [List.length_map]; exact small1000 (by omega), fun c o hc => ?_, ws ++ [z], rw3.add ez, fun y hy => ?_, fun j y hj hy h0 => ?_, by rw [List.length_append]; exact Nat.succ_le_succ l3⟩
      · rw [upd_ne (ne_of_none hc nD)]
        exact sm c o hc
      · rcases List.mem_append.mp hy with hy | hy
        · exact h1 y hy
        · rw [List.mem_singleton.mp hy]
          exact ⟨List.mem_of_getElem? hz, z0⟩
      · by_cases e : j = i
        · rw [e, hz] at hy
          cases hy
          exact List.mem_append_right _ (List.mem_singleton.mpr rfl)
        · exact List.mem_append_left _ (h2 j y (by omega) hy h0)
    · refine ⟨sm, ws, rw3, h1, fun j y hj hy h0 => ?_, by omega⟩
      by_cases e : j = i
      · rw [e, hz] at hy
        cases hy
        rw [h0] at e0
        exact absurd (decide_eq_true rfl) e0
      · exact h2 j y (by omega) hy h0
  rintro H3 ⟨sm, ws, rw3, h1, h2, l3⟩
  rw [List.length_map] at h2 l3
  refine q D ws H3 sm nD rw3 h1 (fun e => ?_) (by omega)
  obtain ⟨r, hr, r0⟩ := gd.cell
  obtain ⟨z, hz, rfl⟩ := List.mem_map.mp hr
  obtain ⟨j, hj⟩ := List.getElem?_of_mem hz
  have := h2 j z (List.getElem?_eq_some_iff.mp hj).1 hj r0
  rw [e] at this
  cases this
end
section
variable {P : Program} {w : World} {K : PySem.W.Frag} {mg : Str → Option Value} {base : Heap}
def spLt (K : PySem.W.Frag) (n : Nat) : Sp := fun vs H Q _ => ∃ (a b : Addr) (m : Nat) (zs : List Rw), vs = [.ref a, .ref b, .int (n : Int)] ∧ 0 < n ∧ Dice H a m ∧ m + cost n < cap ∧ RowsIn H b zs ∧ b ≠ a ∧ Good (zs.map Prod.snd) ∧
  ∀ (x : V) (d : PyData) H', But a H H' → Dice H' a (m + cost n) → Dx K H' x d → Tm (zs.map Prod.snd) n d → Q x H'
theorem ok_lt (T : Tx K mg) : ∀ n, FnOk P w K mg base CX0 (n + 3) T.a_law_term T.d_law_term ["dice", "names", "deep"] (spLt K n)
  | 0 => by
    refine T.f_law_term.ok sc__law_term (fun vs H Q E h => ?_) (fun cdv A outer s H vs Q E hr h => ?_)
    · obtain ⟨a, b, m, zs, rfl, _⟩ := h
      rfl
    · obtain ⟨a, b, m, zs, rfl, h0, _⟩ := h
      exact absurd h0 (Nat.lt_irrefl _)
  | n + 1 => by
    have nd := sc__law_term.nd
    have G0 := ok_lt T n
    have G1 := ok_roll (P := P) (w := w) (base := base) T
    have G2 := ok_pick (P := P) (w := w) (base := base) T
    refine T.f_law_term.ok sc__law_term (fun vs H Q E h => ?_) (fun cdv A outer s H vs Q E hr h => ?_)
    · obtain ⟨a, b, m, zs, rfl, _⟩ := h
      rfl
    · obtain ⟨a, b, m, zs, rfl, _, hd, hc, ri, nba, gd, q⟩ := h
      refine ⟨_, (C8.pss_cut (ps_set (i := 3) nd rfl (.inl rfl) (pe_ifExp (PW.pt (pw_and (pt_cmpR op_gt (pv 2) pe_int (nomark _)) (pw_and1 (pt_cmpR op_gt (pe_call G1 (hr.mono (by omega)) (by rfl) T.g_law_roll T.f_law_roll.kp T.n_law_roll .nil pass0 (pa_cons (pv 0) (pa_cons pe_int pa_nil))) pe_int (nomark _))))) (pv 1) (pe_lc (own := [("row", 6)]) (g := (gName 6)) (by rfl) nd (pi_list (pv 1)) (blkOk_by (own := [("row", 6)]) (N := N__law_term) (sc := defScope s__law_term) (by decide +kernel)) (fun _ _ _ _ _ => pg_name (i := 6) nd rfl (.inl rfl)) (fun _ _ _ _ _ => (pts_one (pt_cmpR op_eq (pe_ix (r := rIxT K) ix_tup (pv 6) pe_int (fun _ _ => rfl)) pe_int (nomark _)))) (fun _ _ _ _ _ => (pv 6)))))
      (pss_cons (ps_asg (pe_call G2 (hr.mono (by omega)) (by rfl) T.g_law_pick T.f_law_pick.kp T.n_law_pick .nil pass0 (pa_cons (pv 0) (pa_cons (pv 3) pa_nil))) (pg_tup rfl (pgs_cons (pg_name (i := 4) nd rfl (.inl rfl)) (pgs_cons (pg_name (i := 5) nd rfl (.inl rfl)) pgs_nil))))
      (pss_one (ps_ret (pe_op op_catA (pe_tup (pa_cons (pv 4) pa_nil)) (pe_callTy call_tuple_of (by rfl) T.b_tuple (by decide +kernel) (pa_cons (pe_lc (own := [("turn", 7)]) (g := (gName 7)) (tt := tYes) (by rfl) nd (pi_range1 (by rfl) T.b_range (pa_cons (pv 5) pa_nil)) (blkOk_by (own := [("turn", 7)]) (N := N__law_term) (sc := defScope s__law_term) (by decide +kernel)) (fun _ _ _ _ _ => pg_name (i := 7) nd rfl (.inl rfl)) (fun _ _ _ _ _ => pts_nil) (fun s1 H1 C1 cl1 fp1 => (pe_call G0 (hr.mono (by omega)) (by rfl) T.g_law_term T.f_law_term.kp T.n_law_term .nil pass0 (pa_cons (pv 0) (pa_cons (pv 1) (pa_cons (pe_op op_sub (pv 2) pe_int) pa_nil)))))) pa_nil))))))), ?_⟩
      have lzs : zs.length ≤ 20 := by
        have := gd.few
        rwa [List.length_map] at this
      refine ⟨fun σ' H' => But a H H' ∧ Dice H' a (m + 1) ∧ RowsIn H' b zs ∧ ∃ (s : Addr) (vs : List Rw), σ' = [some (.ref a), some (.ref b), some (.int ((n + 1 : Nat) : Int)), some (.ref s), none, none, none, none] ∧ RowsIn H' s vs ∧ s ≠ a ∧ vs ≠ [] ∧ vs.length ≤ 20 ∧ (∀ z, z ∈ vs → z ∈ zs) ∧ (n = 0 → ∀ z, z ∈ vs → z.2.2 = 0), ?_, ?_⟩
      · refine ⟨_, rfl, _, _, rfl, rfl, _, rfl, ite2 (fun e1 => ?_) (fun e1 => ?_)⟩
        · have n0 : n ≠ 0 := fun z => by
            have := of_decide_eq_true e1
            rw [z] at this
            exact absurd this (by decide)
          refine ⟨_, rfl, a, m, 3, rfl, hd, ?_, by decide, by decide, fun r H4 bt dd r0 r1 => ⟨_, _, rfl, rfl, _, rfl, ite2 (fun e2 => ?_) (fun e2 => ?_)⟩⟩
          · rw [cost] at hc
            omega
          · have ri4 := ri.but bt hd nba
            refine ⟨_, rfl, bt, dd, ri4, b, zs, rfl, ri4, nba, fun z => ?_, lzs, fun z hz => hz, fun z => absurd z n0⟩
            rw [z] at lzs
            obtain ⟨r, hr, _⟩ := gd.cell
            rw [z] at hr
            cases hr
          · have ri4 := ri.but bt hd nba
            exact cells_rd ri4 gd fun D ws H5 s5 nD rw5 sub ne few => ⟨bt.trans (But.of s5), dd.up s5, ri4.up s5, D, ws, rfl, rw5, dd.ne nD, ne, few, fun z hz => (sub z hz).1, fun _ z hz => (sub z hz).2⟩
        · exact iteF (cells_rd ri gd fun D ws H5 s5 nD rw5 sub ne few => ⟨But.of s5, (hd.up s5).le (Nat.le_succ m), ri.up s5, D, ws, rfl, rw5, hd.ne nD, ne, few, fun z hz => (sub z hz).1, fun _ z hz => (sub z hz).2⟩)
      rintro σ1 H5 ⟨bt5, dd5, ri5, s5, vs, rfl, rs5, ns5, vne, lvs, sub, leaf⟩
      have vp : 0 < vs.length := by
        cases vs with
        | nil => exact absurd rfl vne
        | cons _ _ => exact Nat.succ_pos _
      -- the pick
      refine ⟨_, rfl, _, rfl, a, s5, m + 1, _, rfl, dd5, ?_, .inl (.inl rs5.1), ns5, by rw [List.length_map]; exact vp, by rw [List.length_map]; omega, fun i v H6 bt6 dd6 hi => ?_⟩
      · rw [cost] at hc
        omega
      rw [List.getElem?_map] at hi
      obtain ⟨z, hz, rfl⟩ := Option.map_eq_some_iff.mp hi
      have zin := sub z (List.mem_of_getElem? hz)
      have leaf := fun e => leaf e z (List.mem_of_getElem? hz)
      have rs6 := rs5.but bt6 dd5 ns5
      have ri6 := ri5.but bt6 dd5 nba
      have ez := rs6.2 z (List.mem_of_getElem? hz)
      have gz := gd.nm z.2 (List.mem_map.mpr ⟨z, zin, rfl⟩)
      have zmem : z.2 ∈ zs.map Prod.snd := List.mem_map.mpr ⟨z, zin, rfl⟩
      have bt6 := bt5.trans bt6
      obtain ⟨za, nm, k⟩ := z
      dsimp only at gz leaf ez zmem
      refine ⟨za, _, rfl, SqT.of ez, rfl, _, _, rfl, _, _, rfl, rfl, ?_⟩
      -- the head
      refine ⟨_, rfl, (by show 1 ≤ sizeLine; decide), fun t nt => ?_⟩
      have smt := same_new (o := .tup [.str nm]) nt
      have nta := dd6.ne nt
      refine ⟨_, rfl, (k : Int), rfl, by omega, by omega, fun D2 nD2 => ?_⟩
      have smD2 := same_new (o := .lst []) nD2
      have nD2a := (dd6.up smt).ne nD2
      have btD := bt6.trans ((But.of smt).trans (But.of smD2))
      have nD2H := But.free (bt6.trans (But.of smt)) nD2a nD2
      have ek : ((k : Int)).toNat = k := Int.toNat_natCast k
      rw [ek]
      refine lc_range (fun i H7 => But a H H7 ∧ Dice H7 a (m + 2 + i * cost n) ∧ RowsIn H7 b zs ∧ H7 t = some (.tup [.str nm]) ∧ ∃ (ws : List V) (ds : List PyData), H7 D2 = some (.lst ws) ∧ DxAll K H7 ws ds ∧ ds.length = i ∧ formedAll ds = true ∧ (∀ r, r ∈ rowsAll ds → r ∈ zs.map Prod.snd) ∧ PyData.depthAll ds ≤ n)
        ⟨btD, (dd6.up (smt.trans smD2)).le (Nat.le_add_right _ _), ri6.up (smt.trans smD2), smD2 _ _ upd_same, [], [], upd_same, .nil, rfl, rfl, fun r h => (nomatch h), Nat.zero_le _⟩ ?_ ?_
      · rintro i H7 hi ⟨bt7, dd7, ri7, et7, ws7, ds7, eD7, dx7, l7, f7, r7, p7⟩
        have n0 : 0 < n := by
          cases n with
          | zero =>
            have := leaf rfl
            omega
          | succ n => exact Nat.succ_pos _
        refine ⟨rfl, (iteT (B := False) ?_ : if true = true then _ else False)⟩
        have c1 : cost (n + 1) = 2 + 3 * cost n := rfl
        have ic : i * cost n + cost n ≤ 3 * cost n := by
          have := Nat.mul_le_mul_right (cost n) (show i + 1 ≤ 3 by omega)
          rwa [Nat.add_mul, Nat.one_mul] at this
        refine ⟨_, rfl, _, rfl, _, rfl, _, _, rfl, rfl, a, b, m + 2 + i * cost n, zs, ?_, n0, dd7, by omega, ri7, nba, gd, fun x d H8 bt8 dd8 hx tm => ?_⟩
        · show [V.ref a, V.ref b, V.int (((n + 1 : Nat) : Int) - 1)] = _
          rw [show ((n + 1 : Nat) : Int) - 1 = (n : Int) by omega]
        · have ts := Tups.but bt8 dd7
          have eD8 := bt8 _ _ eD7 nD2a
          have tD : Tups H8 (upd H8 D2 (.lst (ws7 ++ [x]))) := Tups.lst eD8
          have lw := dx7.length
          refine ⟨ws7, eD8, small1000 (by omega), (bt7.trans bt8).put nD2H, (dd8.put nD2a).le (by rw [Nat.add_mul, Nat.one_mul]; omega), ?_, tD _ _ (ts _ _ et7), ws7 ++ [x], ds7 ++ [d], upd_same, DxAll.append (DxAll.ts (ts.trans tD) _ _ (pure_formedAll _ f7) dx7) (.cons (Dx.ts tD _ _ (pure_formed _ tm.fm) hx) .nil), by rw [List.length_append, l7]; rfl, by rw [formedAll_snoc, f7, tm.fm]; rfl, fun r hr => ?_, depthAll_snoc p7 tm.dp⟩
          · exact ((ri7.but bt8 dd7 nba).off eD8 (ne_of_none ri.1 nD2H).symm)
          · rw [rowsAll_append] at hr
            rcases List.mem_append.mp hr with h | h
            · exact r7 r h
            · simp only [rowsAll, List.append_nil] at h
              exact tm.rw r h
      · rintro H7 ⟨bt7, dd7, ri7, et7, ws7, ds7, eD7, dx7, l7, f7, r7, p7⟩
        have lw := dx7.length
        have c1 : cost (n + 1) = 2 + 3 * cost n := rfl
        have kc : k * cost n ≤ 3 * cost n := Nat.mul_le_mul_right (cost n) gz.2
        refine ⟨D2, ws7, rfl, .inl ⟨.inl (.inl eD7), fun u nu => ?_⟩⟩
        have smu := same_new (o := .tup ws7) nu
        have et8 := smu _ _ et7
        have dx8 := dx7.up smu
        have fm : formedD (.tuple (.str nm :: ds7)) = true := by
          simp [formedD, nameD, gz.1, f7, l7, gz.2]
        have tm : Tm (zs.map Prod.snd) (n + 1) (.tuple (.str nm :: ds7)) := by
          refine ⟨fm, fun r hr => ?_, ?_⟩
          · rw [rowsD, headD, l7] at hr
            rcases List.mem_cons.mp hr with h | h
            · rw [h]
              exact zmem
            · exact r7 r h
          · simp only [PyData.depth, PyData.depthAll]
            omega
        have bt8 := bt7.trans (But.of smu)
        have dd8 := (dd7.up smu).le (show m + 2 + k * cost n ≤ m + cost (n + 1) by omega)
        refine ⟨t, u, _, _, rfl, rfl, SqT.of et8, SqT.of upd_same, Nat.le_of_lt (small1000 (by rw [List.length_singleton]; omega)), fun z => (nomatch z), fun _ e => ?_, fun _ _ v nv => ?_⟩
        · subst e
          cases dx8
          exact q _ _ _ bt8 dd8 (.tup et8 (.cons (.str _) .nil)) tm
        · have smv := same_new (o := .tup ([V.str nm] ++ ws7)) nv
          exact q _ _ _ (bt8.trans (But.of smv)) (dd8.up smv) (.tup upd_same (.cons (.str _) (dx8.up smv))) tm
end
end K13
/-! {elt for target in iter}, elt a text or an int; its length. -/
namespace Kx
open PySem PySem.Spec PyProof.Rows L2 PpSet
section
variable {X : Cx}
/-- what a turn leaves: Nx the heap behind it -/
abbrev TurnK (P : Program) (w : World) (D : Addr) (te : TE) (σ : L2.St) (H : Hp) (Nx : Hp → Prop) : Prop :=
  te σ H fun y G => ∃ (c : Key) (S : Key → Bool) (n : Nat), y = kV c ∧ G D = some (L2.SetK P w D S n) ∧ n + 1 < scanBound ∧ Nx (upd G D (L2.SetK P w D (fun j => S j || decide (j = c)) (if S c = true then n else n + 1)))
def tScK (P : Program) (w : World) (wi : TI) (g : TG) (tt : TT) (te : TE) (vs : List Nat) : TE := fun σ H Q => wi σ H fun J H1 => ∀ D, H1 D = none →
  ∃ W : Nat → Nat → Hp → Prop, (∃ m, W 0 m (upd H1 D (L2.SetK P w D (fun _ => false) 0))) ∧ ∀ i m G, W i m G → (J.stop i G ∧ Q (.ref D) G) ∨
    (J.go i G ∧ ∃ Nx : Hp → Prop, (∀ G', Nx G' → ∃ m', m' < m ∧ W (i + 1) m' G') ∧ ∀ x G', J.yld i G x G' → g x (wipe σ vs) G' fun σ2 G2 => wipe σ2 vs = wipe σ vs ∧ tt σ2 G2 fun b G3 => if b = true then TurnK P w D te σ2 G3 Nx else Nx G3)
theorem emptyK {P : Program} {w : World} {h : Heap} : (h.push { cls := .type "set", dict := none, data := .set #[] 0 (.fresh 0 0 (!w.params.followText "set-order")) }).SetOf (mixKind P w) h.objs.size (fun _ => false) 0 :=
  ⟨_, #[], 0, _, Heap.get?_push_size _ rfl, ⟨rfl, rfl, rfl⟩, rfl, (fun e he => by simp at he), (fun k => by simp), (by decide), (by rfl), rfl⟩
theorem pe_scK {elt tg iter : Expr} {ifs : List Expr} {scope : Scope} {own : List (PySem.Str × Nat)} {pos : Pos} {wi : TI} {g : TG} {tt : TT} {te : TE} (hc : X.calm = true) (hN : X.N.Nodup) (hi : PI X tg iter wi) (ok : BlkOk X.N X.env.scope scope own)
    (hg : ∀ (s : Shared) (H : Hp) (C : Addr) (cl : List (PySem.Str × Addr)) (fp : List Addr), PG (X.blk s H scope (compEnvC scope cl C X.env) fp) tg g)
    (ht : ∀ (s : Shared) (H : Hp) (C : Addr) (cl : List (PySem.Str × Addr)) (fp : List Addr), PTs (X.blk s H scope (compEnvC scope cl C X.env) fp) ifs tt)
    (he : ∀ (s : Shared) (H : Hp) (C : Addr) (cl : List (PySem.Str × Addr)) (fp : List Addr), PE (X.blk s H scope (compEnvC scope cl C X.env) fp) elt te) (hs : ∀ x, foldedSetIterable iter X.env x = pure x := by intro _; rfl) :
    PE X (.SetComp elt [⟨tg, iter, ifs, 0⟩] scope pos) (tScK X.prog X.w wi g tt te (own.map (·.2))) := by
  refine ⟨fun pins s σ H Q I hQ => ?_⟩
  have cells : ∀ y ∈ scope.names, y.2 = .free → ∃ c, X.env.cells.lookup y.1 = some c := fun y hy e =>
    (ok.free y hy e).elim (fun z => I.ok.has _ (.inl z)) (fun z => I.ok.has _ (.inr z))
  rw [eval_SetComp]
  refine wpAny_comprehension_free (use := none) rfl hs (closure_ok cells) ok.kind (fun y hy e => by rw [ok.uniq y hy, e]) (thn (hi.run pins s σ H _ I hQ) fun xv sa ha => thn ha fun itv sb hb => ?_)
  obtain ⟨it, fp, tn, J, Hb, rfl, Ib, T, stb, fb, qb⟩ := hb
  refine newSet_ok (newEnv_comp ?_)
  obtain ⟨D, eD⟩ : ∃ D, D = sb.heap.objs.size := ⟨_, rfl⟩
  have nD : Hb D = none := Ib.hok.fresh (by rw [eD]; exact Nat.le_refl _)
  obtain ⟨W, ⟨m0, w0⟩, turns⟩ := qb D nD
  obtain ⟨sc, esc⟩ : ∃ sc : Shared, sc = { sb with heap := sb.heap.push { cls := .type "set", dict := none, data := .set #[] 0 (.fresh 0 0 (!X.w.params.followText "set-order")) } } := ⟨_, rfl⟩
  have hsc : sc.heap = sb.heap.push { cls := .type "set", dict := none, data := .set #[] 0 (.fresh 0 0 (!X.w.params.followText "set-order")) } := by rw [esc]
  have Ic : Inv X pins σ (upd Hb D (L2.SetK X.prog X.w D (fun _ => false) 0)) sc := by
    subst esc eD
    exact Ib.laid (t' := sb.toks) (fun b o e => Heap.get?_push_of_some _ e) (Nat.le_refl _) (L2.setK_new emptyK)
  have old : ∀ b ∈ fp, b < sb.heap.objs.size := fun b hb => by
    obtain ⟨o, e, _⟩ := T.obj _ _ stb b hb
    exact Heap.lt_size e
  have fc : ∀ b ∈ fp, FpOk X pins (upd Hb D (L2.SetK X.prog X.w D (fun _ => false) 0)) b ∧ b < sc.heap.objs.size := fun b hb => by
    have lt := old b hb
    refine ⟨⟨?_, (fb b hb).2⟩, by rw [hsc, Heap.size_push]; exact Nat.lt_succ_of_lt lt⟩
    rw [upd_ne (show b ≠ D by rw [eD]; exact Nat.ne_of_lt lt)]
    exact (fb b hb).1
  have stc : tn 0 sc.heap := T.keep _ _ _ stb fun b _ o e => by
    rw [hsc]
    exact Heap.get?_push_of_some _ e
  obtain ⟨Hc, eHc⟩ : ∃ Hc, Hc = upd Hb D (L2.SetK X.prog X.w D (fun _ => false) 0) := ⟨_, rfl⟩
  rw [← eHc] at Ic fc w0
  obtain ⟨cl, ecl⟩ : ∃ cl, cl = cellsFrom (sc.heap.objs.size + 1) scope.names (cloFrom X.env.cells scope.names []) := ⟨_, rfl⟩
  have Id := block_start Ic ok hN fc
  have pg := hg sc Hc sc.heap.objs.size cl fp
  have pt := ht sc Hc sc.heap.objs.size cl fp
  have pe := he sc Hc sc.heap.objs.size cl fp
  have goal : codeAny (model X.prog X.w) X.A (.compStart (.SetComp elt [⟨tg, iter, ifs, 0⟩] scope pos) 0 (.ref it) (.ref D) (compEnvC scope cl sc.heap.objs.size X.env)) (compPost (model X.prog X.w) X.A X.xe none (EP X pins σ Q) (.ref D) sc.heap.objs.size)
      { sc with heap := pushCells (sc.heap.push { cls := .type "dict", data := .dict #[] }) scope.names } := by
    rw [← ecl] at Id
    obtain ⟨ce, ece⟩ : ∃ ce, ce = compEnvC scope cl sc.heap.objs.size X.env := ⟨_, rfl⟩
    rw [← ece] at Id pg pt pe ⊢
    have loc : ce.locals = sc.heap.objs.size := by rw [ece]; rfl
    obtain ⟨sd, esd⟩ : ∃ sd : Shared, sd = { sc with heap := pushCells (sc.heap.push { cls := .type "dict", data := .dict #[] }) scope.names } := ⟨_, rfl⟩
    rw [← esd] at Id ⊢
    have std : tn 0 sd.heap := T.keep _ _ _ stc fun b _ o e => by
      rw [esd]
      exact pushCells_keeps _ _ _ _ (Heap.get?_push_of_some _ e)
    have inB : ∀ {τ : L2.St} {G : Hp} {z : Shared}, Inv (X.blk sc Hc scope ce fp) [] τ G z → (∀ b ∈ fp, G b = none) → ∀ b ∈ fp, FpOk (X.blk sc Hc scope ce fp) [] G b := fun {τ G z} I' hn b hb =>
      ⟨hn b hb, (I'.ok.exf b hb).1, I'.ok.exfs b hb, .inl hb, fun x c e => (I'.ok.exf b hb).2 x c e, fun p hp => absurd (show p ∈ ([] : List (Addr × Obj)) ++ [] from hp) (by simp)⟩
    have main : codeAny (model X.prog X.w) X.A (.compLoop (.SetComp elt [⟨tg, iter, ifs, 0⟩] scope pos) 0 (.ref it) (.ref D) ce) (compPost (model X.prog X.w) X.A X.xe none (EP X pins σ Q) (.ref D) sc.heap.objs.size) sd := by
      refine compLoopS_any (fun n z => ∃ i G, Inv (X.blk sc Hc scope ce fp) [] (wipe σ (own.map (·.2))) G z ∧ tn i z.heap ∧ (∀ b ∈ fp, G b = none) ∧ W i n G) ?_ m0 ⟨0, Hc, Id, std, fun b hb => (fc b hb).1.1, w0⟩
      rintro n z ⟨i, G, IG, stG, nG, wG⟩
      rcases turns i n G wG with ⟨stop, qq⟩ | ⟨go, Nx, hNx, step⟩
      · refine thnF (T.done (X.blk sc Hc scope ce fp) rfl rfl rfl hc i [] z _ G (fun _ _ => False) IG (inB IG nG) stG stop) fun r z2 ⟨hr, I2⟩ => ?_
        subst hr
        have I3 : Inv X pins σ G z2 := Ic.call' (ch := fp) I2.os I2.base I2.hok I2.bare fun b hb => ⟨(fc b hb).1.2.2.2.1, (fc b hb).1.2.1, (fc b hb).1.2.2.2.2.1, (fc b hb).1.2.2.2.2.2⟩
        have nC : G sc.heap.objs.size = none := by
          have z : G ce.locals = none := I2.free
          rwa [loc] at z
        obtain ⟨mm, hm, _⟩ := I2.loc
        have hm : z2.heap.Ns ce.locals mm := hm
        rw [loc] at hm
        refine ⟨mm, hm, fun h'' up => ?_⟩
        obtain ⟨f0, f1, f2, f3, f4, f5⟩ := Ic.fpOk (Nat.le_refl _) nC
        exact ⟨.ref D, G, I3.turned (t' := z2.toks) (fun b o hb e => (up.2 b hb).trans e) f0 f1 f3 f4 f5, rfl, qq⟩
      · refine thnF (T.item (X.blk sc Hc scope ce fp) rfl rfl rfl hc i [] z _ G (fun _ _ => False) IG (inB IG nG) stG go) fun r z2 ⟨u, hr, h2⟩ => ?_
        subst hr
        refine thnF h2 fun _ z3 ⟨x, G3, I3, r3, y3, st3, n3⟩ => ?_
        refine thnF (pg.run _ z3 _ G3 x u _ (I3.pinned (inB I3 n3) (T.obj _ _ st3)) r3 (step x G3 y3)) fun _ z4 ⟨σ4, G4, I4, hw, q4⟩ => ?_
        refine thnF (pt.run _ z4 σ4 G4 _ I4 q4) fun b z5 ⟨G5, I5, q5⟩ => ?_
        have back : ∀ {z' : Shared} {G' : Hp}, Inv (X.blk sc Hc scope ce fp) ([] ++ pinsAt fp z3.heap) σ4 G' z' → Nx G' → ∃ m, m < n ∧ ∃ i G, Inv (X.blk sc Hc scope ce fp) [] (wipe σ (own.map (·.2))) G z' ∧ tn i z'.heap ∧ (∀ b ∈ fp, G b = none) ∧ W i m G := fun {z' G'} I' nx => by
          obtain ⟨m', lt, w'⟩ := hNx G' nx
          have at' : ∀ b ∈ fp, ∀ o, z3.heap.get? b = some o → z'.heap.get? b = some o ∧ G' b = none := fun b hb o e =>
            have p := I'.pin (b, o) (List.mem_append_right _ (List.mem_append_right _ (mem_pinsAt hb e)))
            ⟨p.1, p.2.1⟩
          refine ⟨m', lt, i + 1, G', (I'.unpinned (pins := [])).weak (by rw [← hw, wipe_length]) (fun j v e => ?_), T.keep _ _ _ st3 fun b hb o e => (at' b hb o e).1, fun b hb => ?_, w'⟩
          · rw [← hw] at e
            exact (wipe_some e).1
          · obtain ⟨o, e, _⟩ := T.obj _ _ st3 b hb
            exact (at' b hb o e).2
        by_cases eb : b = true
        · subst eb
          simp only [if_true] at q5 ⊢
          refine thnF (pe.run _ z5 σ4 G5 _ I5 q5) fun v z6 ⟨yv, G6, I6, r6, c, S, k, ey, h6, room, nx⟩ => ?_
          subst ey
          exact thnF (mt_saddK (X := X.blk sc Hc scope ce fp) _ z6 σ4 G6 (.ref D) [kV c] (.ref D) [v] (fun _ G' => Nx G') I6 rfl (.cons r6 .nil) ⟨D, c, S, k, rfl, rfl, h6, room, nx⟩) fun _ z7 ⟨_, G7, I7, _, nx7⟩ => back I7 nx7
        · have eb' : b = false := by simpa using eb
          subst eb'
          simp only [Bool.false_eq_true, if_false] at q5 ⊢
          exact back I5 q5
    exact codeAny_compStart_set main (T.self X.A 0 _ _ _ std main)
  rw [ecl] at goal
  subst esc eD
  exact goal
end
end Kx
namespace Kx
open PySem PySem.Spec PyProof.Rows L2 PpSet
section
variable {X : Cx}
def rLenSK (P : Program) (w : World) : List V → Hp → VK → Prop := fun xs H Q => ∃ (a : Addr) (S : Key → Bool) (n : Nat), xs = [.ref a] ∧ H a = some (L2.SetK P w a S n) ∧ Q (.int (n : Nat)) H
theorem call_lenSK : CallR X (.builtin "len") (rLenSK X.prog X.w) := by
  intro pins s σ H xs us Q I rv h
  obtain ⟨a, S, n, rfl, ha, q⟩ := h
  obtain ⟨u, rfl, ru⟩ := rv.one
  cases ru
  obtain ⟨o, es, ep, t, ho, hex, hd, _, _, few, hf, hn⟩ := L2.setK_get I ha
  have e4 : scanBound = 4096 := rfl
  exact call_len_set ho hex hd hf (by omega) ⟨.int (n : Nat), H, I.tok _, ⟨_, by rw [hn]⟩, q⟩
end
/-- a set comprehension over the keys of a locked dict -/
theorem sck_keys {P : Program} {w : World} {d : Addr} {o : Obj} {kvs : List (Key × V)} {g : TG} {tt : TT} {te : TE} {vs : List Nat} {σ : L2.St} {H1 : Hp} {D : Addr} {Qd : Hp → Prop} (Pv : Nat → Hp → Prop) (h0 : Pv 0 (upd H1 D (L2.SetK P w D (fun _ => false) 0)))
    (hl : ∀ i H, Pv i H → H d = some (.frz o (.dK kvs))) (hs : ∀ (i : Nat) k v H, kvs[i]? = some (k, v) → Pv i H → g (kV k) (wipe σ vs) H fun σ2 H2 => wipe σ2 vs = wipe σ vs ∧ tt σ2 H2 fun b H3 => if b = true then TurnK P w D te σ2 H3 (Pv (i + 1)) else Pv (i + 1) H3)
    (hd : ∀ H, Pv kvs.length H → Qd H) : ∃ W : Nat → Nat → Hp → Prop, (∃ m, W 0 m (upd H1 D (L2.SetK P w D (fun _ => false) 0))) ∧ ∀ i m G, W i m G → ((Itk d o kvs).stop i G ∧ Qd G) ∨
    ((Itk d o kvs).go i G ∧ ∃ Nx : Hp → Prop, (∀ G', Nx G' → ∃ m', m' < m ∧ W (i + 1) m' G') ∧ ∀ x G', (Itk d o kvs).yld i G x G' → g x (wipe σ vs) G' fun σ2 G2 => wipe σ2 vs = wipe σ vs ∧ tt σ2 G2 fun b G3 => if b = true then TurnK P w D te σ2 G3 Nx else Nx G3) := by
  refine ⟨fun i m H => m = kvs.length - i ∧ i ≤ kvs.length ∧ Pv i H, ⟨_, rfl, Nat.zero_le _, h0⟩, ?_⟩
  rintro i m G ⟨rfl, le, p⟩
  have f := hl i G p
  by_cases lt : i < kvs.length
  · refine .inr ⟨⟨f, lt⟩, Pv (i + 1), fun G' p' => ⟨kvs.length - (i + 1), by omega, rfl, lt, p'⟩, fun x G' ⟨e, k, v, hk, ex⟩ => ?_⟩
    subst e ex
    exact hs i k v _ hk p
  · have e : i = kvs.length := by omega
    subst e
    exact .inl ⟨⟨f, Nat.le_refl _⟩, hd G p⟩
/-- a list comprehension over the keys of a locked dict -/
theorem lc_keys {d : Addr} {o : Obj} {kvs : List (Key × V)} {g : TG} {tt : TT} {te : TE} {vs : List Nat} {σ : L2.St} {H1 : Hp} {D : Addr} {Qd : Hp → Prop} (Pv : Nat → Hp → Prop) (h0 : Pv 0 (upd H1 D (.lst [])))
    (hl : ∀ i H, Pv i H → H d = some (.frz o (.dK kvs))) (hs : ∀ (i : Nat) k v H, kvs[i]? = some (k, v) → Pv i H → g (kV k) (wipe σ vs) H fun σ2 H2 => wipe σ2 vs = wipe σ vs ∧ tt σ2 H2 fun b H3 =>
      if b = true then te σ2 H3 fun y H4 => ∃ acc, H4 D = some (.lst acc) ∧ acc.length < sizeLine ∧ Pv (i + 1) (upd H4 D (.lst (acc ++ [y]))) else Pv (i + 1) H3)
    (hd : ∀ H, Pv kvs.length H → Qd H) : ∃ W : Nat → Nat → Hp → Prop, (∃ m, W 0 m (upd H1 D (.lst []))) ∧ ∀ i m G, W i m G → ((Itk d o kvs).stop i G ∧ Qd G) ∨
    ((Itk d o kvs).go i G ∧ ∃ Nx : Hp → Prop, (∀ G', Nx G' → ∃ m', m' < m ∧ W (i + 1) m' G') ∧ ∀ x G', (Itk d o kvs).yld i G x G' → g x (wipe σ vs) G' fun σ2 G2 => wipe σ2 vs = wipe σ vs ∧ tt σ2 G2 fun b G3 =>
      if b = true then te σ2 G3 fun y G4 => ∃ acc, G4 D = some (.lst acc) ∧ acc.length < sizeLine ∧ Nx (upd G4 D (.lst (acc ++ [y]))) else Nx G3) := by
  refine ⟨fun i m H => m = kvs.length - i ∧ i ≤ kvs.length ∧ Pv i H, ⟨_, rfl, Nat.zero_le _, h0⟩, ?_⟩
  rintro i m G ⟨rfl, le, p⟩
  have f := hl i G p
  by_cases lt : i < kvs.length
  · refine .inr ⟨⟨f, lt⟩, Pv (i + 1), fun G' p' => ⟨kvs.length - (i + 1), by omega, rfl, lt, p'⟩, fun x G' ⟨e, k, v, hk, ex⟩ => ?_⟩
    subst e ex
    exact hs i k v _ hk p
  · have e : i = kvs.length := by omega
    subst e
    exact .inl ⟨⟨f, Nat.le_refl _⟩, hd G p⟩
end Kx
/-! All but some addresses stay. -/
namespace Kx
open PySem PySem.Spec PyProof.Rows L2
def ButL (S : List Addr) (H H' : Hp) : Prop := ∀ b o, H b = some o → b ∉ S → H' b = some o
section
variable {S S' : List Addr} {H H0 G G' : Hp} {b p : Addr} {o u : HO}
theorem ButL.refl : ButL S H H := fun _ _ h _ => h
theorem ButL.of (s : Same H G) : ButL S H G := fun b o h _ => s b o h
theorem ButL.trans (x : ButL S H G) (y : ButL S G G') : ButL S H G' := fun b o h n => y b o (x b o h n) n
theorem ButL.at (x : ButL S H G) (e : H b = some o) (n : b ∉ S) : G b = some o := x b o e n
theorem ButL.put (x : ButL S H G) (m : b ∈ S) : ButL S H (upd G b u) := fun c o h n => by
  rw [upd_ne (fun z : c = b => n (by rw [z]; exact m))]
  exact x c o h n
theorem ButL.new (x : ButL S H G) (np : G p = none) : ButL S H (upd G p u) := fun c o h n => by
  rw [upd_ne (ne_of_none (x c o h n) np)]
  exact x c o h n
theorem ButL.same (s : Same H0 H) (n : ∀ b ∈ S, H0 b = none) (x : ButL S H G) : Same H0 G := fun b o h => x b o (s b o h) fun z => by
  rw [n b z] at h
  cases h
theorem ButL.weak (x : ButL S H G) (h : ∀ b ∈ S, b ∈ S') : ButL S' H G := fun b o e n => x b o e fun z => n (h b z)
end
end Kx
namespace Kx
open PySem PySem.Spec PyProof.Rows L2
section
variable {S S' : List Addr} {H G : Hp}
theorem offs_but (x : ButL S' H G) (n : ∀ b, b ∈ S' → b ∉ S → H b = none) : Same (OffS S H) (OffS S G) := fun b o h => by
  obtain ⟨m, h⟩ := OffS.of h
  refine OffS.out m (x b o h fun z => ?_)
  rw [n b z m] at h
  cases h
theorem same_offs (s : Same H G) (n : ∀ b, b ∈ S → H b = none) : Same H (OffS S G) := fun b o h => OffS.out (fun z => by
  rw [n b z] at h
  cases h) (s b o h)
end
end Kx
/-! {None: v}: made, asked for its class, walked. -/
namespace Kx
open PySem PySem.Spec PyProof.Rows L2
/-- a dict with the one key None -/
def DNo (P : Program) (w : World) (a : Addr) : HO := .ext fun h => (a == sysModules) = false ∧ ∃ u, h.DictOf (noneKind P w) a [(none, u)]
theorem dno_ok {P : Program} {w : World} {H : Hp} {h : Heap} {a : Addr} {u : Value} (n : (a == sysModules) = false) (e : h.DictOf (noneKind P w) a [(none, u)]) : ObjOk P w H h a (DNo P w a) := by
  obtain ⟨o, es, ep, ho, r⟩ := id e
  refine ⟨⟨n, u, e⟩, ⟨o, ho⟩, fun h1 h2 ⟨n, u, o, es, ep, h, r⟩ k => ⟨n, u, o, es, ep, k _ h, r⟩⟩
theorem dno_ne {P : Program} {w : World} {a : Addr} {ps : Array Value} : DNo P w a ≠ .tbl ps := fun z => by
  unfold DNo at z
  cases z
def tDispN (P : Program) (w : World) (tv : TE) : TE := fun σ H Q => ∀ p, H p = none → tv σ (upd H p (.dK [])) fun _ H2 => H2 p = some (.dK []) ∧ Q (.ref p) (upd H2 p (DNo P w p))
theorem pe_dispN {X : Cx} {pos : Pos} {k v : Expr} {tv : TE} (hk : PE X k (tC .non)) (hv : PE X v tv) : PE X (.Dict [some k] [v] pos) (tDispN X.prog X.w tv) := by
  refine ⟨fun pins s σ H Q I q => ?_⟩
  have hn := I.hok.fresh (Nat.le_refl s.heap.objs.size)
  have I1 := I.laid (a := s.heap.objs.size) (o := .dK []) (h' := s.heap.push { cls := .type "dict", data := .dict #[] }) (t' := s.toks) (fun _ _ q => Heap.get?_push_of_some _ q) (Nat.le_refl _) (dk_empty s.heap I.big)
  refine wpAny_Dict_walk (knd := noneKind X.prog X.w) rfl rfl (by simp) (by simp) (pairTrees_cons_walk (thn (hk.run pins _ σ _ (fun x H1 => x = .non ∧ H1 = upd H s.heap.objs.size (.dK [])) I1 ⟨rfl, rfl⟩) ?_))
  rintro kv s1 ⟨x, H1, I2, rx, ex, eH⟩
  rw [eH] at I2
  subst ex
  obtain rfl : kv = Value.none := rx
  refine thn (hv.run pins s1 σ _ _ I2 (q _ hn)) ?_
  rintro vv s2 ⟨y, H2, I3, ry, hp, q2⟩
  refine pairTrees_nil_walk ?_
  obtain ⟨z, hd, vs0, r0, dd⟩ := dk_of I3.hok hp
  cases r0
  have dd0 : s2.heap.DictOf (noneKind X.prog X.w) s.heap.objs.size [] := by
    obtain ⟨o, es, ep, ho, hx, hdt, hk, hp, hnd⟩ := dd
    have e0 : es.toList = [] := by
      cases e : es.toList with
      | nil => rfl
      | cons a b => rw [e] at hp; cases hp
    refine ⟨o, es, ep, ho, hx, hdt, ?_, by rw [e0]; exact .nil, List.nodup_nil⟩
    intro e he
    have he : e ∈ es.toList := Array.mem_toList_iff.mpr he
    rw [e0] at he
    cases he
  refine ⟨[(none, vv)], ?_, dd0, fun h' dd' hs => ⟨.ref s.heap.objs.size, _, ?_, rfl, q2⟩⟩
  · exact ⟨rfl, rfl, trivial⟩
  have he : ∃ q, h'.get? s.heap.objs.size = some q := let ⟨q, _, _, hq, _⟩ := dd'; ⟨q, hq⟩
  exact d_write I3 (by rw [hp]; exact True.intro) hs he (dno_ok hd dd')
/-- its one key, None -/
def ItN (P : Program) (w : World) (d : Addr) (o : Obj) : It :=
  ⟨fun i H => H d = some (.frz o (DNo P w d)) ∧ i < 1, fun i H x H' => H' = H ∧ x = .non, fun i H => H d = some (.frz o (DNo P w d)) ∧ 1 ≤ i⟩
section
variable {P : Program} {w : World} {K : PySem.W.Frag} {tg : Expr} {d : Addr} {o : Obj} {es : Array DictEntry} {ep : Nat}
theorem Inv.frzN {X : Cx} {pins : List (Addr × Obj)} {σ : L2.St} {H : Hp} {s : Shared} (I : Inv X pins σ H s) (h : H d = some (.frz o (DNo X.prog X.w d))) :
    (d == sysModules) = false ∧ s.heap.get? d = some o ∧ o.ExactDict ∧ ∃ (es : Array DictEntry) (ep : Nat), o.data = .dict es ep ∧ es.size = 1 ∧ ∃ en : DictEntry, es[0]? = some en ∧ en.key = .none := by
  obtain ⟨hd, ⟨ns, u, o', es, ep, ho, hx, hdt, _, pr, _⟩, _⟩ := I.hok d _ h
  rw [hd] at ho
  cases ho
  cases e : es.toList with
  | nil => rw [e] at pr; cases pr
  | cons a l =>
    rw [e] at pr
    cases pr with
    | cons p1 p2 pt =>
      cases pt
      refine ⟨ns, hd, hx, es, ep, hdt, by rw [← Array.length_toList, e]; rfl, a, by rw [← Array.getElem?_toList, e]; rfl, ?_⟩
      exact nk_none p1
theorem turn_keysN (it : Addr) (hod : o.data = .dict es ep) : Turn P w K tg (ItN P w d o) [it] it (fun i h => h.IsKeyIter it d i 1 ep) where
  mem := by simp
  obj := fun i h st b hb => by
    have e : b = it := by simpa using hb
    subst e
    obtain ⟨oi, e, c, dd⟩ := st
    exact ⟨oi, e, fun v z => by rw [dd] at z; cases z⟩
  keep := fun i h h' st k => st.at fun oi e => k it (by simp) oi e
  item := by
    intro X hP hw hK hc i pins s σ H E I hf st hg
    subst hP hw hK
    obtain ⟨hd, hi⟩ := hg
    obtain rfl : i = 0 := by omega
    obtain ⟨f0, f1, f2, f3, f4, f5⟩ := hf it (by simp)
    obtain ⟨hs, hgd, hx, es', ep', hdt, hsz, en, hen, hkey⟩ := Inv.frzN I hd
    obtain ⟨rfl, rfl⟩ := dict_ep hod hdt
    refine next_key_item st hgd hdt hsz hen fun h' st' sb => ?_
    have I1 : Inv X pins σ H { s with heap := h' } := I.turned (t' := s.toks) (fun b ob hb e => (sb.2 b hb).trans e) f0 f1 f3 f4 f5
    obtain ⟨oi, e, c, dd⟩ := id st'
    exact ⟨en.key, rfl, go_of (s := { s with heap := h' }) e c dd (by decide) ⟨.non, H, I1, hkey, ⟨rfl, rfl⟩, st', fun b hb => (hf b hb).1⟩⟩
  done := by
    intro X hP hw hK hc i pins s σ H E I hf st hg
    subst hP hw hK
    obtain ⟨hd, hi⟩ := hg
    obtain ⟨f0, f1, f2, f3, f4, f5⟩ := hf it (by simp)
    obtain ⟨hs, hgd, hx, es', ep', hdt, hsz, en, hen, hkey⟩ := Inv.frzN I hd
    obtain ⟨rfl, rfl⟩ := dict_ep hod hdt
    exact next_key_end (I.ok.hd hc) st hgd hdt hsz hi fun h' eb => ⟨rfl, I.turned (t' := s.toks) (fun b ob hb e => eb b ob hb e) f0 f1 f3 f4 f5⟩
  self := fun A i s Q E st h => by
    refine wpAny_pyIter_slot st.typeIs F.slot_dict_keyiterator_iter (wpAny_call_entry F.slot_dict_keyiterator_iter st.typeIs F.entry_dict_keyiterator_iter ?_ (F.args_dict_keyiterator_iter_1 _))
    show wpAny _ _ (ret (.ref it)) _ _ s
    exact wpAny_pure ⟨_, rfl, "dict_keyiterator", _, st.typeIs, F.slot_dict_keyiterator_next.lookup, h⟩
theorem walk_keysN : Walk (ItN P w d o) 1 (fun H => H d = some (.frz o (DNo P w d))) (fun i H x H' => H' = H ∧ x = .non) :=
  ⟨fun _ _ hi q => ⟨q, hi⟩, fun _ q => ⟨q, Nat.le_refl _⟩, fun _ _ _ _ _ _ y => y⟩
end
/-- the keys of the locked dict, which may be the one with None -/
def iKeysN (P : Program) (w : World) (td : TE) : TI := fun σ H R => td σ H fun x H1 => ∃ d o, x = .ref d ∧ ((∃ kvs, H1 d = some (.frz o (.dK kvs)) ∧ R (Itk d o kvs) H1) ∨ (H1 d = some (.frz o (DNo P w d)) ∧ R (ItN P w d o) H1))
theorem pi_keysN {X : Cx} {tg e : Expr} {td : TE} (he : PE X e td) : PI X tg e (iKeysN X.prog X.w td) := by
  refine ⟨fun pins s σ H R I h => ?_⟩
  refine thn (he.run pins s σ H _ I h) fun u s1 ⟨x, H1, I1, rx, d, o, ex, q⟩ => ?_
  subst ex
  obtain rfl : u = Value.ref d := rx
  rcases q with ⟨kvs, hd, q⟩ | ⟨hd, q⟩
  · obtain ⟨hs, hgd, hx, es, ep, vs, hdt, hsz, kv, hm⟩ := I1.frzK hd
    refine iter_keys hs hgd hx hdt (pi_one (tk := s1.toks) I1 _ (turn_keys _ hdt) ⟨_, Heap.get?_push_size _ rfl, rfl, ?_⟩ q)
    rw [hsz] <;> rfl
  · obtain ⟨hs, hgd, hx, es, ep, hdt, hsz, en⟩ := Inv.frzN I1 hd
    refine iter_keys hs hgd hx hdt (pi_one (tk := s1.toks) I1 _ (turn_keysN _ hdt) ⟨_, Heap.get?_push_size _ rfl, rfl, ?_⟩ q)
    rw [hsz] <;> rfl
/-- isinstance(x, C), x data or such a dict -/
def rIsiN (P : Program) (w : World) (K : PySem.W.Frag) : List V → Hp → VK → Prop := fun xs H Q => rIsi K xs H Q ∨ ∃ (a : Addr) (c : V) (u : Value) (b : Bool), xs = [.ref a, c] ∧ H a = some (DNo P w a) ∧ ClsV c u ∧ PySem.W.kitOne K (.type "dict") u = some b ∧ Q (.bl b) H
theorem call_isiN {X : Cx} : CallR X (.builtin "isinstance") (rIsiN X.prog X.w X.K) := by
  intro pins s σ H xs us Q I r h
  rcases h with h | ⟨a, c, u, b, rfl, ha, k, e, q⟩
  · exact call_isi pins s σ H xs us Q I r h
  obtain ⟨u1, u2, rfl, r1, r2⟩ := vals2 r
  have e2 := k.eq r2
  subst e2
  cases r1
  obtain ⟨⟨_, _, o, es, ep, ho, hx, hdt, _⟩, _⟩ := I.hok a _ ha
  exact PySem.W.kia_one PySem.W.kitx_dict I.kIn ⟨o, ho, hx.1⟩ e (fun z => nomatch z) fun tk => ⟨.bl b, H, I.tok tk, rfl, q⟩
end Kx
/-! What the functions raise: terms, names. -/
namespace K13
open PySem PySem.Spec PyProof.Rows L2 Kx
section
variable {P : Program} {w : World} {K : PySem.W.Frag} {mg : Str → Option Value} {base : Heap}
end
/-- a list of texts that holds the same as l, each once -/
theorem once_len : ∀ (l L : List Str), L.Nodup → (∀ z, z ∈ L ↔ z ∈ l) → L.length ≤ l.length ∧ (L.length = l.length ↔ l.Nodup)
  | [], L, _, h => by
    have : L = [] := List.eq_nil_iff_forall_not_mem.mpr fun z hz => by simpa using (h z).mp hz
    subst this
    simp
  | a :: r, L, nd, h => by
    by_cases ar : a ∈ r
    · have e := once_len r L nd (fun z => by
        rw [h z, List.mem_cons]
        exact ⟨fun x => x.elim (fun e => by rw [e]; exact ar) id, .inr⟩)
      rw [List.length_cons]
      refine ⟨by omega, fun x => by omega, fun x => absurd ar (List.nodup_cons.mp x).1⟩
    · have aL : a ∈ L := (h a).mpr List.mem_cons_self
      have e := once_len r (L.erase a) (nd.erase a) (fun z => by
        rw [nd.mem_erase_iff, h z, List.mem_cons]
        constructor
        · rintro ⟨n, x | x⟩
          · exact absurd x n
          · exact x
        · exact fun x => ⟨fun y => ar (y ▸ x), .inr x⟩)
      rw [List.length_erase_of_mem aL] at e
      have pos : 0 < L.length := List.length_pos_of_mem aL
      rw [List.length_cons, List.nodup_cons]
      refine ⟨by omega, fun x => ⟨ar, e.2.mp (by omega)⟩, fun x => ?_⟩
      have := e.2.mpr x.2
      omega
end K13
/-! sorted(d), d with tuples for keys; data < data. -/
namespace Kx
open PySem PySem.Spec PyProof.Rows L2
def tupD (k : List Key) : PyData := .tuple (k.map keyD)
theorem dx_keys {K : PySem.W.Frag} {H : Hp} : ∀ ks : List Key, DxAll K H (ks.map kV) (ks.map keyD)
  | [] => .nil
  | .inl i :: ks => .cons (.int i) (dx_keys ks)
  | .inr x :: ks => .cons (.str x) (dx_keys ks)
theorem depth_keys : ∀ ks : List Key, PyData.depthAll (ks.map keyD) ≤ 1
  | [] => by simp [PyData.depthAll]
  | .inl i :: ks => by
    have := depth_keys ks
    simp only [List.map_cons, PyData.depthAll, keyD, PyData.depth]
    omega
  | .inr x :: ks => by
    have := depth_keys ks
    simp only [List.map_cons, PyData.depthAll, keyD, PyData.depth]
    omega
theorem reads_keys {h : Heap} : ∀ (ks : List Key) (us : List Value) (as : List Addr), ReadsAll h us (ks.map keyD) as → as = []
  | [], _, _, r => by cases r; rfl
  | .inl i :: ks, _, _, r => by
    cases r with
    | cons a b =>
      cases a
      rw [reads_keys ks _ _ b]
      rfl
  | .inr x :: ks, _, _, r => by
    cases r with
    | cons a b =>
      cases a
      rw [reads_keys ks _ _ b]
      rfl
theorem readsAll_push {h : Heap} {o : Obj} : ∀ (ks : List Key) (us : List Value), ReadsAll h us (ks.map keyD) [] → ReadsAll (h.push o) us (ks.map keyD) []
  | [], _, r => by cases r; exact .nil
  | k :: ks, us, r => PyProof.Rows.ReadsAll.keeps (fun _ _ e => Heap.get?_push_of_some _ e) r
/-- its keys in their order, each its own tuple -/
abbrev KItem := Addr × List Key
def rSortKT (K : PySem.W.Frag) : List V → Hp → VK → Prop := fun xs H Q => ∃ (a : Addr) (kvs : List (List Key × V)), xs = [.ref a] ∧ H a = some (.dT kvs) ∧ PySem.W.AllAlike (kvs.map fun p => tupD p.1) ∧ (∀ p, p ∈ kvs → p.1 ≠ []) ∧
  ∀ (zs : List KItem) p, H p = none → zs.map Prod.snd = kvs.map Prod.fst → (∀ z, z ∈ zs → H z.1 = some (.tup (z.2.map kV))) → Q (.ref p) (upd H p (.lst ((zs.mergeSort (PySem.W.dataLe false fun z => tupD z.2)).map fun z => V.ref z.1)))
section
variable {X : Cx}
theorem cr_sortedKT (hc : X.calm = true) (hu : X.A.units + 64 < cLine) : CallR X (.builtin "sorted") (rSortKT X.K) := by
  intro pins s σ H xs us Q I r h
  obtain ⟨d, kvs, rfl, hd, al, nn, q⟩ := h
  obtain ⟨u, rfl, rx⟩ := r.one
  cases rx
  obtain ⟨z, hs, ks, pr, o, es, ep, ho, hx, hdt, he, hn⟩ := (show ObjOk X.prog X.w H s.heap d (.dT kvs) from I.hok d _ hd)
  have l1 : es.size = ks.length := size_of_entries he
  have l2 : kvs.length = ks.length := Paired.length pr
  refine Calls.call_function_entry PyProof.Rows.kind_sorted PyProof.Rows.plain_sorted PyProof.Rows.entry_sorted (PyProof.Rows.args_sorted1 _) ?_
  unfold Builtin.«sorted»
  refine wpAny_bind (m := checkCount "sorted" 1 1 _) (wpAny_pure ?_)
  refine wpAny_bind (PySem.W.kdu_collect (A := X.A.in1) (kdl_raw hs hx hdt) (I.ok.hd hc) ho (by omega) fun h' tk acc hk it => ?_)
  have ea : acc.toList = ks.map fun x => Value.ref x.2.1 := by
    have hl : acc.toList.length = ks.length := by rw [Array.length_toList, it.1]; exact l1
    apply List.ext_getElem?
    intro j
    rw [List.getElem?_map]
    cases hj : acc.toList[j]? with
    | none =>
      have h1 := List.getElem?_eq_none_iff.mp hj
      rw [List.getElem?_eq_none (by omega)]
      rfl
    | some v =>
      obtain ⟨en, hen, hv⟩ := it.2 j v (by rw [← Array.getElem?_toList]; exact hj)
      have qe := entry_at he j
      rw [hen] at qe
      cases hb : ks[j]? with
      | none =>
        rw [hb] at qe
        exact nomatch (show some en = none from qe)
      | some b =>
        rw [hb] at qe
        have e2 : en = entryOfKey (tupleKind (mixKind X.prog X.w)) b := Option.some.inj qe
        rw [hv, e2]
        rfl
  have I1 : Inv X pins σ H { s with heap := h', toks := tk } := I.kept hk
  have lz : ks.length ≤ sizeLine := by omega
  refine wpAny_bind (wpAny_newList ?_ (by rw [ea, List.length_map]; exact lz))
  have hoL : (h'.push (seqObj "list" acc.toList.toArray 0)).get? h'.objs.size = some (seqObj "list" acc.toList.toArray 0) := Heap.get?_push_size _ rfl
  show wpAny _ _ _ _ _ { s with heap := h'.push (seqObj "list" acc.toList.toArray 0), toks := tk }
  have I2 : Inv X pins σ H { s with heap := h'.push (seqObj "list" acc.toList.toArray 0), toks := tk } := I.kept fun b o e => Heap.get?_push_of_some _ (hk b o e)
  obtain ⟨zs, ezs⟩ : ∃ zs : List KItem, zs = ks.map fun x => ((x.2.1, x.1) : KItem) := ⟨_, rfl⟩
  have hz : ∀ z, z ∈ zs → H z.1 = some (.tup (z.2.map kV)) := by
    intro z hz
    rw [ezs] at hz
    obtain ⟨x, hx, rfl⟩ := List.mem_map.mp hz
    have : ∀ (kvs : List (List Key × V)) (ks : List (List Key × Addr × Value)), Paired (fun (p : List Key × V) (q : List Key × Addr × Value) => p.1 = q.1 ∧ H q.2.1 = some (.tup (p.1.map kV)) ∧ RelV p.2 q.2.2) kvs ks → ∀ x, x ∈ ks → H x.2.1 = some (.tup (x.1.map kV)) := by
      intro kvs ks h
      induction h with
      | nil => intro x hx; cases hx
      | cons r t ih =>
        intro x hx
        rcases List.mem_cons.mp hx with rfl | hx
        · rw [← r.1]
          exact r.2.1
        · exact ih x hx
    exact this kvs ks pr x hx
  have hzk : zs.map Prod.snd = kvs.map Prod.fst := by
    have : ∀ (kvs : List (List Key × V)) (ks : List (List Key × Addr × Value)), Paired (fun (p : List Key × V) (q : List Key × Addr × Value) => p.1 = q.1 ∧ H q.2.1 = some (.tup (p.1.map kV)) ∧ RelV p.2 q.2.2) kvs ks → (ks.map fun x => ((x.2.1, x.1) : KItem)).map Prod.snd = kvs.map Prod.fst := by
      intro kvs ks h
      induction h with
      | nil => rfl
      | cons r t ih =>
        rw [List.map_cons, List.map_cons, List.map_cons, ih, r.1]
    rw [ezs]
    exact this kvs ks pr
  have each : ∀ (zs : List KItem), (∀ z, z ∈ zs → H z.1 = some (.tup (z.2.map kV))) → PySem.W.EachIs (fun u (p : KItem) => u = Value.ref p.1 ∧ ∃ as, Reads (h'.push (seqObj "list" acc.toList.toArray 0)) u (tupD p.2) as ∧ h'.objs.size ∉ as) (zs.map fun z => Value.ref z.1) zs := by
    intro zs
    induction zs with
    | nil => intro _; exact .nil
    | cons p zs ih =>
      intro hz
      refine .cons ⟨rfl, ?_⟩ (ih fun q hq => hz q (List.mem_cons_of_mem _ hq))
      obtain ⟨as, rd, _⟩ := Dx.reads I1 (tupD p.2) (.ref p.1) (.ref p.1) (.tup (hz p List.mem_cons_self) (dx_keys p.2)) rfl
      cases rd with
      | tuple h1 h2 h3 h4 =>
        have z := reads_keys p.2 _ _ h4
        subst z
        exact ⟨[], Reads.tuple (Heap.get?_push_of_some _ h1) h2 h3 (readsAll_push p.2 _ h4), fun z => nomatch z⟩
  have e := each zs hz
  have ez : zs.map (fun z => Value.ref z.1) = acc.toList := by
    rw [ezs, ea, List.map_map]
    rfl
  rw [ez] at e
  have lzs : zs.length = ks.length := by rw [ezs]; exact List.length_map ..
  have alz : PySem.W.AllAlike (zs.map fun z => tupD z.2) := by
    have : zs.map (fun z => tupD z.2) = kvs.map fun p => tupD p.1 := by
      have e1 : (zs.map Prod.snd).map tupD = zs.map fun z => tupD z.2 := List.map_map ..
      have e2 : (kvs.map Prod.fst).map tupD = kvs.map fun p => tupD p.1 := List.map_map ..
      rw [← e1, ← e2, hzk]
    rw [this]
    exact al
  have so : PySem.W.Sortable (zs.map fun z => tupD z.2) := .inl fun dd hdd => by
    obtain ⟨z, hzz, rfl⟩ := List.mem_map.mp hdd
    have : z.2 ∈ kvs.map Prod.fst := by rw [← hzk]; exact List.mem_map.mpr ⟨z, hzz, rfl⟩
    obtain ⟨p, hp, e2⟩ := List.mem_map.mp this
    have nz : z.2 ≠ [] := by rw [← e2]; exact nn p hp
    cases hz2 : z.2 with
    | nil => exact absurd hz2 nz
    | cons a b => exact ⟨keyD a, b.map keyD, rfl⟩
  refine wpAny_bind (wpAny_holding (PySem.W.list_sort_data (enc := fun z : KItem => tupD z.2) hoL (e.mono fun _ _ h => h.1) (e.mono fun _ _ h => h.2) alz so (by rw [lzs]; exact lz) (fun b hb => ?_) fun out lo eo => ?_))
  · have := depth_keys b.2
    have e1 : (tupD b.2).depth ≤ 2 := by
      simp only [tupD, PyData.depth]
      omega
    show X.A.units + 1 + 1 + (tupD b.2).depth < cLine
    omega
  obtain ⟨e', he'⟩ := PyProof.Rows.sortedHeap_at (vs := acc.toList) (out := out.toArray) hoL
  have back : ∀ {out : List Value} {ys : List KItem}, PySem.W.EachIs (fun u (p : KItem) => u = Value.ref p.1) out ys → Vals (ys.map fun z => V.ref z.1) out := by
    intro out ys h
    induction h with
    | nil => exact .nil
    | cons h _ ih => exact .cons h ih
  have ln : ((zs.mergeSort (PySem.W.dataLe false fun z => tupD z.2)).map fun z => V.ref z.1).length ≤ sizeLine := by
    rw [List.length_map, List.length_mergeSort, lzs]
    exact lz
  refine wpAny_pure ⟨_, rfl, .ref h'.objs.size, upd H h'.objs.size (.lst ((zs.mergeSort (PySem.W.dataLe false fun z => tupD z.2)).map fun z => V.ref z.1)), I1.laid (t' := tk) (fun b u e => ?_) (Nat.le_refl _)
    (show ObjOk X.prog X.w _ _ _ (.lst _) from ⟨ln, out, e', back eo, he'⟩), rfl, q zs _ (I1.hok.fresh (Nat.le_refl _)) hzk hz⟩
  have hb : b < h'.objs.size := Heap.lt_size e
  rw [PyProof.Rows.sortedHeap_old (Nat.ne_of_lt hb) (by rw [size_push']; exact Nat.lt_succ_of_lt hb)]
  exact Heap.get?_push_of_some _ e
/-- data < data -/
def rLtD (K : PySem.W.Frag) : V → V → Hp → VK → Prop := fun x y H Q => ∃ da db, Dx K H x da ∧ Dx K H y db ∧ PySem.W.alike da db = true ∧ da ≠ .none ∧ da.depth ≤ 60 ∧ Q (.bl (PySem.W.dataLt da db)) H
theorem op_ltD (hu : X.A.units + 64 < cLine) : OpR X (compareOp .Lt) (rLtD X.K) := by
  intro pins s σ H x y u v Q I rx ry h
  obtain ⟨da, db, dx, dy, al, nn, dp, q⟩ := h
  obtain ⟨as, ra, _⟩ := Dx.reads I da x u dx rx
  obtain ⟨bs, rb, _⟩ := Dx.reads I db y v dy ry
  exact PySem.W.lt_data ra rb al nn (by omega) ⟨.bl _, H, I, rfl, q⟩
end
end Kx
/-! Couples. -/
namespace K13
open PySem PySem.Spec PyProof.Rows L2 Kx
def sidesOf : PyData → List PyData
  | .tuple [a, b] => [a, b]
  | _ => []
def coupleD : PyData → Bool
  | .tuple [_, _] => true
  | _ => false
def sidesD (ds : List PyData) : List PyData := ds.flatMap sidesOf
def couplesD (ds : List PyData) : Bool := ds.all coupleD && jointD (sidesD ds)
theorem couple_eq {d : PyData} (h : coupleD d = true) : ∃ a b, d = .tuple [a, b] := by
  match d, h with
  | .tuple [a, b], _ => exact ⟨a, b, rfl⟩
theorem dx_couple {K : PySem.W.Frag} {H : Hp} {v : V} {a b : PyData} (h : Dx K H v (.tuple [a, b])) : ∃ (p : Addr) (x y : V), v = .ref p ∧ H p = some (.tup [x, y]) ∧ Dx K H x a ∧ Dx K H y b := by
  cases h with
  | @tup p xs _ hp hx =>
    cases hx with
    | cons h1 h2 => cases h2 with
      | cons h2 h3 =>
        cases h3
        exact ⟨p, _, _, rfl, hp, h1, h2⟩
mutual
theorem wt_sz : ∀ d : PyData, wt d + 1 ≤ 3 * szD d
  | .none | .bool _ | .int _ | .str _ | .list _ | .dict _ => by simp [wt, szD]
  | .tuple ds => by
    have := wtA_sz ds
    simp only [wt, szD]
    omega
theorem wtA_sz : ∀ ds : List PyData, wtA ds ≤ 3 * szAll ds
  | [] => by simp [wtA, szAll]
  | d :: ds => by
    have := wt_sz d
    have := wtA_sz ds
    simp only [wtA, szAll]
    omega
end
theorem nm_len (d : PyData) (h : nameD d = true) : (nmC d).length ≤ 8 := by
  cases d with
  | str x =>
    have h : isNm x = true := h
    simp only [isNm, Bool.and_eq_true, decide_eq_true_eq] at h
    show x.cps.toList.length ≤ 8
    rw [Array.length_toList]
    exact h.1.2
  | _ => cases h
mutual
theorem tx_sz : ∀ d : PyData, formedD d = true → (tx d).length + 1 ≤ 11 * szD d
  | .none, h | .bool _, h | .int _, h | .str _, h | .list _, h | .dict _, h => by cases h
  | .tuple [], h => by cases h
  | .tuple (d :: []), h => by
    simp only [formedD, Bool.and_eq_true] at h
    have := nm_len d h.1.2
    simp only [tx, txA, List.append_nil, szD, szAll]
    have : szD d ≥ 1 := szD_pos d
    omega
  | .tuple (d :: e :: es), h => by
    simp only [formedD, formedAll, Bool.and_eq_true] at h
    have := nm_len d h.1.2
    have := tx_sz e h.2.1
    have := txM_sz es h.2.2
    have : szD d ≥ 1 := szD_pos d
    simp only [tx, txA, List.length_append, List.length_cons, List.length_nil, szD, szAll]
    omega
theorem txM_sz : ∀ ds : List PyData, formedAll ds = true → (txM ds).length ≤ 11 * szAll ds
  | [], _ => by simp [txM, szAll]
  | d :: ds, h => by
    simp only [formedAll, Bool.and_eq_true] at h
    have := tx_sz d h.1
    have := txM_sz ds h.2
    simp only [txM, List.length_append, List.length_cons, szAll]
    omega
end
/-- the text may be written -/
structure Wr (d : PyData) : Prop where
  f : formedD d = true
  w : wt d ≤ 100000
  t : (tx d).length ≤ 1000000
theorem wr_of {d : PyData} (h : formedD d = true) (z : szD d ≤ 10000) : Wr d := by
  have := wt_sz d
  have := tx_sz d h
  exact ⟨h, by omega, by omega⟩
section
variable {P : Program} {w : World} {K : PySem.W.Frag} {mg : Str → Option Value} {base : Heap}
def spKey (K : PySem.W.Frag) : Sp := fun vs H Q _ => ∃ (c : Addr) (x y : V) (a b : PyData), vs = [.ref c] ∧ H c = some (.tup [x, y]) ∧ Dx K H x a ∧ Dx K H y b ∧ Wr a ∧ Wr b ∧ ∀ p H', Same H H' → H p = none → H' p = some (.tup [.str (tS (tx a)), .str (tS (tx b))]) → Q (.ref p) H'
theorem ok_key (T : Tx K mg) : FnOk P w K mg base CX0 2 T.akey_of T.dkey_of ["couple"] (spKey K) := by
  have nd := sc_key_of.nd
  have G := ok_wr (P := P) (w := w) (base := base) T
  refine T.fkey_of.ok sc_key_of (fun vs H Q E h => ?_) (fun cdv A outer s H vs Q E hr h => ?_)
  · obtain ⟨c, x, y, a, b, rfl, _⟩ := h
    rfl
  obtain ⟨c, x, y, a, b, rfl, hc, hx, hy, wa, wb, q⟩ := h
  refine ⟨_, (pss_one (ps_ret (pe_tup (pa_cons (pe_call G (hr.mono (by omega)) (by rfl) T.gwritten T.fwritten.kp T.nwritten .nil pass0 (pa_cons (pe_ix ix_tup (pv 0) pe_int (fun _ _ => rfl)) pa_nil)) (pa_cons (pe_call G (hr.mono (by omega)) (by rfl) T.gwritten T.fwritten.kp T.nwritten .nil pass0 (pa_cons (pe_ix ix_tup (pv 0) pe_int (fun _ _ => rfl)) pa_nil)) pa_nil))))), ?_⟩
  refine ⟨_, rfl, c, _, 0, x, rfl, rfl, SqT.of hc, atI_nat (j := 0) rfl, x, a, rfl, hx, wa.f, wa.w, wa.t, fun H1 s1 => ?_⟩
  refine ⟨_, rfl, c, _, 1, y, rfl, rfl, SqT.of (s1 _ _ hc), atI_nat (j := 1) rfl, y, b, rfl, hy.up s1, wb.f, wb.w, wb.t, fun H2 s2 => ?_⟩
  refine ⟨by show 2 ≤ sizeLine; decide, fun p np => ?_⟩
  refine q p _ (s1.trans (s2.trans (same_put np))) ?_ upd_same
  cases e : H p with
  | none => rfl
  | some o =>
    rw [s2 _ _ (s1 _ _ e)] at np
    cases np
/-- the first side's text comes first -/
def ordD (a b : PyData) : Bool := decide (tx a < tx b)
def ordC : PyData → Bool
  | .tuple [a, b] => ordD a b
  | _ => false
def spOrd (K : PySem.W.Frag) : Sp := fun vs H Q _ => ∃ (c : Addr) (x y : V) (a b : PyData), vs = [.ref c] ∧ H c = some (.tup [x, y]) ∧ Dx K H x a ∧ Dx K H y b ∧ Wr a ∧ Wr b ∧ ∀ H', Same H H' → Q (.bl (ordD a b)) H'
theorem ok_ord (T : Tx K mg) : FnOk P w K mg base CX0 3 T.ais_ordered T.dis_ordered ["couple"] (spOrd K) := by
  have nd := sc_is_ordered.nd
  have G := ok_key (P := P) (w := w) (base := base) T
  refine T.fis_ordered.ok sc_is_ordered (fun vs H Q E h => ?_) (fun cdv A outer s H vs Q E hr h => ?_)
  · obtain ⟨c, x, y, a, b, rfl, _⟩ := h
    rfl
  obtain ⟨c, x, y, a, b, rfl, hc, hx, hy, wa, wb, q⟩ := h
  refine ⟨_, (pss_cons (ps_asg (pe_call G (hr.mono (by omega)) (by rfl) T.gkey_of T.fkey_of.kp T.nkey_of .nil pass0 (pa_cons (pv 0) pa_nil)) (pg_tup rfl (pgs_cons (pg_name (i := 1) nd rfl (.inl rfl)) (pgs_cons (pg_name (i := 2) nd rfl (.inl rfl)) pgs_nil))))
      (pss_one (ps_ret (pe_cmpR op_lt_str (pv 1) (pv 2) (nomark _))))), ?_⟩
  refine ⟨_, rfl, c, x, y, a, b, rfl, hc, hx, hy, wa, wb, fun p H1 s1 np hp => ?_⟩
  refine ⟨p, _, rfl, .inl (.inl hp), rfl, ?_⟩
  exact ⟨_, _, rfl, _, _, rfl, rfl, _, rfl, _, rfl, _, _, rfl, rfl, q H1 s1⟩
def spCp (K : PySem.W.Frag) : Sp := fun vs H Q _ => ∃ (x : V) (d : PyData), vs = [x] ∧ Dx K H x d ∧ Q (.bl (coupleD d)) H
theorem ok_cp (T : Tx K mg) : FnOk P w K mg base CX0 1 T.ais_couple T.dis_couple ["value"] (spCp K) := by
  have nd := sc_is_couple.nd
  refine T.fis_couple.ok sc_is_couple (fun vs H Q E h => ?_) (fun cdv A outer s H vs Q E hr h => ?_)
  · obtain ⟨x, d, rfl, _⟩ := h
    rfl
  obtain ⟨x, d, rfl, hx, q⟩ := h
  refine ⟨_, (pss_one (ps_ret (pe_and (pe_callB call_isi (by rfl) T.b_isinstance (by decide +kernel) (pa_cons (pv 0) (pa_cons (pe_bltn (v := .ty "tuple") (by rfl) T.b_tuple (by decide +kernel) rfl) pa_nil))) (pe_one (pe_cmpR op_eq (pe_callB call_len_seq (by rfl) T.b_len (by decide +kernel) (pa_cons (pv 0) pa_nil)) pe_int (nomark _)))))), ?_⟩
  refine ⟨_, rfl, x, .ty "tuple", _, _, _, rfl, .ty _, hx.ty, kit_ty (kit_tuple d), _, rfl, ?_⟩
  match d, hx, q with
  | .tuple ds, hx, q =>
    cases hx with
    | @tup p xs _ hp hs =>
    have ll := hs.length
    refine iteT ⟨_, rfl, p, xs, rfl, .inr (SqT.of hp), rfl, ?_⟩
    have e : coupleD (.tuple ds) = decide (V.int (xs.length : Int) = V.int 2) := by
      rw [ll]
      match ds with
      | [] => rfl
      | [_] => rfl
      | [_, _] => rfl
      | a :: b :: c :: r =>
        rw [show coupleD (.tuple (a :: b :: c :: r)) = false from rfl]
        refine (decide_eq_false fun z => ?_).symm
        have := V.int.inj z
        simp only [List.length_cons] at this
        omega
    rw [e] at q
    exact q
  | .none, _, q | .bool _, _, q | .int _, _, q | .str _, _, q | .list _, _, q | .dict _, _, q => exact iteF q
end
end K13
/-! The sides of couples. -/
namespace K13
open PySem PySem.Spec PyProof.Rows L2 Kx
theorem sidesD_take {ds : List PyData} {i : Nat} {d : PyData} (h : ds[i]? = some d) : sidesD (ds.take (i + 1)) = sidesD (ds.take i) ++ sidesOf d := by
  rw [List.take_add_one, h]
  simp [sidesD]
theorem sidesD_len : ∀ ds : List PyData, (sidesD ds).length ≤ 2 * ds.length
  | [] => by simp [sidesD]
  | d :: ds => by
    have := sidesD_len ds
    have h1 : (sidesOf d).length ≤ 2 := by
      match d with
      | .tuple [a, b] => exact Nat.le_refl 2
      | .tuple [] => simp [sidesOf]
      | .tuple [_] => simp [sidesOf]
      | .tuple (_ :: _ :: _ :: _) => simp [sidesOf]
      | .none | .bool _ | .int _ | .str _ | .list _ | .dict _ => simp [sidesOf]
    simp only [sidesD, List.flatMap_cons, List.length_append, List.length_cons] at *
    omega
section
variable {P : Program} {w : World} {K : PySem.W.Frag} {mg : Str → Option Value} {base : Heap}
def spSides (K : PySem.W.Frag) : Sp := fun vs H Q _ => ∃ (l : Addr) (xs : List V) (ds : List PyData), vs = [.ref l] ∧ SqL K H l xs ∧ DxAll K H xs ds ∧ ds.all coupleD = true ∧ ds.length ≤ 300 ∧
  ∀ p ys H', Same H H' → H' p = some (.lst ys) → DxAll K H' ys (sidesD ds) → Q (.ref p) H'
theorem ok_sides (T : Tx K mg) : FnOk P w K mg base CX0 1 T.asides_of T.dsides_of ["couples"] (spSides K) := by
  have nd := sc_sides_of.nd
  refine T.fsides_of.ok sc_sides_of (fun vs H Q E h => ?_) (fun cdv A outer s H vs Q E hr h => ?_)
  · obtain ⟨l, xs, ds, rfl, _⟩ := h
    rfl
  obtain ⟨l, xs, ds, rfl, hl, hx, hc, few, q⟩ := h
  refine ⟨_, (pss_one (ps_ret (pe_lc2 (own := [("couple", 1), ("term", 2)]) (vs1 := [2]) (g := (gName 1)) (g1 := (gName 2)) (wi1 := iTup K (tVar 1)) (tt := tYes) (tt1 := tYes) (by rfl) nd (pi_list (pv 0)) (blkOk_by (own := [("couple", 1), ("term", 2)]) (N := N_sides_of) (sc := defScope s_sides_of) (by decide +kernel)) (by decide) (fun _ _ _ _ _ => pg_name (i := 1) nd rfl (.inl rfl)) (fun _ _ _ _ _ => pts_nil) (fun _ _ _ _ _ => pi_tup (pv 1)) (fun _ _ _ _ _ => pg_name (i := 2) nd rfl (.inl rfl)) (fun _ _ _ _ _ => pts_nil) (fun _ _ _ _ _ => (pv 2))))), ?_⟩
  refine ⟨_, rfl, l, rfl, ⟨_, hl⟩, fun D nD => ?_⟩
  have lx := hx.length
  let Pv : Nat → Hp → Prop := fun i G => Same H G ∧ ∃ ys, G D = some (.lst ys) ∧ DxAll K H ys (sidesD (ds.take i))
  refine ⟨fun i m G => m = xs.length - i ∧ i ≤ xs.length ∧ Pv i G, ⟨xs.length, by simp, Nat.zero_le _, same_put nD, [], upd_same, .nil⟩, ?_⟩
  rintro i m G ⟨rfl, hi, sG, ys, eD, dy⟩
  by_cases hlt : i < xs.length
  · refine .inr ⟨⟨xs, xs[i], sG.seq hl, by simp [hlt]⟩, Pv (i + 1), fun H' p' => ⟨xs.length - (i + 1), by omega, rfl, hlt, p'⟩, fun x H' y => ?_⟩
    obtain ⟨e, y⟩ := y
    subst e
    have hxi := y xs (sG.seq hl)
    have gd := List.getElem?_eq_getElem (show i < ds.length by omega)
    obtain ⟨v, hv, dv⟩ := hx.get gd
    rw [hxi] at hv
    cases hv
    have cd : coupleD ds[i] = true := List.all_eq_true.mp hc _ (List.getElem_mem _)
    obtain ⟨a, b, eab⟩ := couple_eq cd
    rw [eab] at dv gd
    obtain ⟨p, u, v, rfl, hp, du, dv2⟩ := dx_couple dv
    refine ⟨rfl, (iteT (B := Pv (i + 1) H') ?_ : if true = true then _ else Pv (i + 1) H')⟩
    refine ⟨_, rfl, p, rfl, ⟨_, SqT.of (sG _ _ hp)⟩, ?_⟩
    let Nx : Nat → Hp → Prop := fun j G => j ≤ 2 ∧ Same H G ∧ ∃ ys, G D = some (.lst ys) ∧ DxAll K H ys (sidesD (ds.take i) ++ [a, b].take j)
    refine ⟨fun j k G2 => k = 2 - j ∧ Nx j G2, ⟨2, rfl, by omega, sG, ys, eD, by simpa using dy⟩, ?_⟩
    rintro j k G2 ⟨rfl, hj, sG2, ys2, eD2, dy2⟩
    have ll : ys2.length ≤ 602 := by
      rw [dy2.length, List.length_append, List.length_take]
      have := sidesD_len (ds.take i)
      rw [List.length_take] at this
      simp only [List.length_cons, List.length_nil]
      omega
    by_cases h2 : j < 2
    · refine .inr ⟨⟨[u, v], [u, v][j]'(by simpa using h2), SqT.of (sG2 _ _ hp), by simp [h2]⟩, Nx (j + 1), fun G3 h3 => ⟨2 - (j + 1), by omega, rfl, h3⟩, fun x G3 y => ?_⟩
      obtain ⟨e, y⟩ := y
      subst e
      have hxj := y [u, v] (SqT.of (sG2 _ _ hp))
      refine ⟨rfl, (iteT (B := Nx (j + 1) G3) ?_ : if true = true then _ else Nx (j + 1) G3)⟩
      refine ⟨_, rfl, ys2, eD2, small1000 (by omega), by omega, fun c o hc => ?_, ys2 ++ [x], upd_same, ?_⟩
      · rw [upd_ne (ne_of_none hc nD)]
        exact sG2 c o hc
      · have e01 : j = 0 ∨ j = 1 := by omega
        rcases e01 with rfl | rfl
        · cases hxj
          have e : sidesD (ds.take i) ++ [a, b].take (0 + 1) = (sidesD (ds.take i) ++ [a, b].take 0) ++ [a] := by simp
          rw [e]
          exact DxAll.append dy2 (.cons du .nil)
        · cases hxj
          have e : sidesD (ds.take i) ++ [a, b].take (1 + 1) = (sidesD (ds.take i) ++ [a, b].take 1) ++ [b] := by simp
          rw [e]
          exact DxAll.append dy2 (.cons dv2 .nil)
    · have e : j = 2 := by omega
      subst e
      refine .inl ⟨⟨[u, v], SqT.of (sG2 _ _ hp), Nat.le_refl _⟩, sG2, ys2, eD2, ?_⟩
      rw [sidesD_take gd]
      exact dy2
  · have e : i = xs.length := by omega
    subst e
    refine .inl ⟨⟨xs, sG.seq hl, Nat.le_refl _⟩, ?_⟩
    rw [lx, List.take_length] at dy
    exact q D ys G sG eD (dy.up sG)
theorem sides_short : ∀ ds : List PyData, shortAll ds = true → shortAll (sidesD ds) = true
  | [], _ => rfl
  | d :: ds, h => by
    rw [shortAll, Bool.and_eq_true] at h
    have ih := sides_short ds h.2
    rw [show sidesD (d :: ds) = sidesOf d ++ sidesD ds from rfl, shortAll_append, ih, Bool.and_true]
    match d, h.1 with
    | .tuple [a, b], h => exact h
    | .tuple [], h => rfl
    | .tuple [_], h => rfl
    | .tuple (_ :: _ :: _ :: _), h => rfl
    | .none, _ | .bool _, _ | .int _, _ | .str _, _ | .list _, _ | .dict _, _ => rfl
theorem sides_sz : ∀ ds : List PyData, szAll (sidesD ds) ≤ szAll ds
  | [] => Nat.le_refl _
  | d :: ds => by
    have ih := sides_sz ds
    rw [show sidesD (d :: ds) = sidesOf d ++ sidesD ds from rfl, szAll_append, szAll]
    have : szAll (sidesOf d) ≤ szD d := by
      match d with
      | .tuple [a, b] => simp only [sidesOf, szD]; omega
      | .tuple [] => simp [sidesOf, szAll]
      | .tuple [_] => simp [sidesOf, szAll]
      | .tuple (_ :: _ :: _ :: _) => simp [sidesOf, szAll]
      | .none | .bool _ | .int _ | .str _ | .list _ | .dict _ => simp [sidesOf, szAll]
    omega
def spAre (K : PySem.W.Frag) : Sp := fun vs H Q _ => ∃ (l : Addr) (xs : List V) (ds : List PyData), vs = [.ref l] ∧ SqL K H l xs ∧ DxAll K H xs ds ∧ shortAll ds = true ∧ szAll ds ≤ 100000 ∧ ds.length ≤ 300 ∧
  ∀ H', Same H H' → Q (.bl (couplesD ds)) H'
theorem ok_are (T : Tx K mg) : FnOk P w K mg base CX0 4 T.aare_couples T.dare_couples ["values"] (spAre K) := by
  have nd := sc_are_couples.nd
  have G1 := ok_cp (P := P) (w := w) (base := base) T
  have G2 := ok_sides (P := P) (w := w) (base := base) T
  have G3 := ok_jointL (P := P) (w := w) (base := base) T
  refine T.fare_couples.ok sc_are_couples (fun vs H Q E h => ?_) (fun cdv A outer s H vs Q E hr h => ?_)
  · obtain ⟨l, xs, ds, rfl, _⟩ := h
    rfl
  obtain ⟨l, xs, ds, rfl, hl, hx, sh, sz, few, q⟩ := h
  refine ⟨_, (pss_cons (ps_if (pt_not (pt_val (pe_callB (cr_all rfl) (by rfl) T.b_all (by decide +kernel) (pa_cons (pe_lc (own := [("value", 1)]) (g := (gName 1)) (tt := tYes) (by rfl) nd (pi_list (pv 0)) (blkOk_by (own := [("value", 1)]) (N := N_are_couples) (sc := defScope s_are_couples) (by decide +kernel)) (fun _ _ _ _ _ => pg_name (i := 1) nd rfl (.inl rfl)) (fun _ _ _ _ _ => pts_nil) (fun _ _ _ _ _ => (pe_call G1 (hr.mono (by omega)) (by rfl) T.gis_couple T.fis_couple.kp T.nis_couple .nil pass0 (pa_cons (pv 1) pa_nil)))) pa_nil)))) (pss_one (ps_ret pe_bl)) pss_nil)
      (pss_one (ps_ret (pe_cmpR op_notN (pe_call G3 (hr.mono (by omega)) (by rfl) T.gjoint_places T.fjoint_places.kp T.njoint_places .nil pass0 (pa_cons (pe_call G2 (hr.mono (by omega)) (by rfl) T.gsides_of T.fsides_of.kp T.nsides_of .nil pass0 (pa_cons (pv 0) pa_nil)) pa_nil)) pe_non (nomark _))))), ?_⟩
  have lx := hx.length
  refine ⟨_, rfl, l, rfl, ⟨_, hl⟩, fun D nD => ?_⟩
  refine lc_list (K := K) (a := l) (xs := xs) (fun i G => Same H G ∧ G D = some (.lst (((ds.take i).map coupleD).map V.bl))) ⟨same_put nD, upd_same⟩ (fun i G _ h => h.1.seq hl) ?_ ?_
  · rintro i x G hi ⟨sG, eD⟩
    have lti : i < ds.length := by rw [← lx]; exact (List.getElem?_eq_some_iff.mp hi).1
    have gd := List.getElem?_eq_getElem lti
    obtain ⟨v, hv, dv⟩ := hx.get gd
    rw [hi] at hv
    cases hv
    refine ⟨rfl, (iteT (B := False) ?_ : if true = true then _ else False)⟩
    refine ⟨_, rfl, x, ds[i], rfl, dv.up sG, _, eD, ?_, fun c o hc => ?_, ?_⟩
    · rw [List.length_map, List.length_map, List.length_take]
      exact small1000 (by omega)
    · rw [upd_ne (ne_of_none hc nD)]
      exact sG c o hc
    · rw [upd_same, List.take_add_one, gd, List.map_append, List.map_append]
      rfl
  · rintro G ⟨sG, eD⟩
    rw [lx, List.take_length] at eD
    refine ⟨D, _, rfl, .inl (.inl eD), _, rfl, ?_⟩
    have eall : ((ds.map coupleD).all id) = ds.all coupleD := by simp
    rw [eall]
    cases hc : ds.all coupleD with
    | false =>
      have e : couplesD ds = false := by simp [couplesD, hc]
      have q := q G sG
      rw [e] at q
      exact iteT q
    | true =>
      refine iteF ?_
      refine ⟨_, rfl, l, xs, ds, rfl, sG.seq hl, hx.up sG, hc, few, fun p ys H1 s1 hp dy => ?_⟩
      refine ⟨p, ys, sidesD ds, rfl, SqL.of hp, dy, sides_short ds sh, Nat.le_trans (sides_sz ds) sz, fun v H2 s2 h1 h2 => ?_⟩
      have q := q H2 (sG.trans (s1.trans s2))
      have e : couplesD ds = jointD (sidesD ds) := by simp [couplesD, hc]
      rw [e] at q
      cases j : jointD (sidesD ds) with
      | false =>
        rw [j] at q
        cases h1 j
        exact ⟨rfl, q⟩
      | true =>
        rw [j] at q
        obtain ⟨p, ms, rfl, _⟩ := h2 j
        exact ⟨rfl, q⟩
def isPairD (d : PyData) : Bool := couplesD [d] && ordC d
theorem dx_nil {K : PySem.W.Frag} {H : Hp} {v : V} {d : PyData} (h : Dx K H v d) : d = .none ↔ v = .non := by
  constructor
  · rintro rfl
    cases h
    rfl
  · rintro rfl
    cases h
    rfl
/-- the sides of couples that hang together may be written -/
theorem couples_wr {ds : List PyData} (h : couplesD ds = true) (z : szAll ds ≤ 10000) : ∀ d, d ∈ ds → ∃ a b, d = .tuple [a, b] ∧ Wr a ∧ Wr b := fun d hd => by
  simp only [couplesD, Bool.and_eq_true] at h
  obtain ⟨a, b, rfl⟩ := couple_eq (List.all_eq_true.mp h.1 d hd)
  have hj : formedAll (sidesD ds) = true := by
    have := h.2
    simp only [jointD, Bool.and_eq_true] at this
    exact this.1
  have fm : ∀ (l : List PyData), formedAll l = true → ∀ e, e ∈ l → formedD e = true := by
    intro l
    induction l with
    | nil => intro _ e he; cases he
    | cons x l ih =>
      intro hl e he
      rw [formedAll, Bool.and_eq_true] at hl
      rcases List.mem_cons.mp he with rfl | he
      · exact hl.1
      · exact ih hl.2 e he
  have sm : ∀ (l : List PyData) e, e ∈ l → szD e ≤ szAll l := by
    intro l
    induction l with
    | nil => intro e he; cases he
    | cons x l ih =>
      intro e he
      rw [szAll]
      rcases List.mem_cons.mp he with rfl | he
      · omega
      · have := ih e he
        omega
  have ma : a ∈ sidesD ds := List.mem_flatMap.mpr ⟨_, hd, by simp [sidesOf]⟩
  have mb : b ∈ sidesD ds := List.mem_flatMap.mpr ⟨_, hd, by simp [sidesOf]⟩
  have z2 := sides_sz ds
  exact ⟨a, b, rfl, wr_of (fm _ hj a ma) (by have := sm _ a ma; omega), wr_of (fm _ hj b mb) (by have := sm _ b mb; omega)⟩
end
end K13
/-! Facts, as they are judged. -/
namespace K13
open PySem PySem.Spec PyProof.Rows L2 Kx StX
/-- the conclusion, where there is one -/
def endOf : PyData → List PyData
  | .none => []
  | e => [e]
theorem endOf_some {e : PyData} (h : e ≠ .none) : endOf e = [e] := by
  cases e <;> first | exact absurd rfl h | rfl
section
variable {P : Program} {w : World} {K : PySem.W.Frag} {mg : Str → Option Value} {base : Heap}
def spPi (K : PySem.W.Frag) : Sp := fun vs H Q _ => ∃ (f t : Addr) (us : List V) (v : V) (ps : List PyData) (e : PyData), vs = [.ref f] ∧ H f = some (.tup [.ref t, v]) ∧ H t = some (.tup us) ∧ DxAll K H us ps ∧ Dx K H v e ∧ ps.length ≤ 299 ∧
  ∀ p ys H', Same H H' → H p = none → H' p = some (.lst ys) → DxAll K H' ys (ps ++ endOf e) → Q (.ref p) H'
theorem ok_pi (T : Tx K mg) : FnOk P w K mg base CX0 1 T.apairs_in T.dpairs_in ["fact"] (spPi K) := by
  have nd := sc_pairs_in.nd
  refine T.fpairs_in.ok sc_pairs_in (fun vs H Q E h => ?_) (fun cdv A outer s H vs Q E hr h => ?_)
  · obtain ⟨f, t, us, v, ps, e, rfl, _⟩ := h
    rfl
  obtain ⟨f, t, us, v, ps, e, rfl, hf, ht, hu, he, few, q⟩ := h
  refine ⟨_, (pss_one (ps_ret (pe_ifExp (pt_cmpR op_isN (pe_ix ix_tup (pv 0) pe_int (fun _ _ => rfl)) pe_non (nomark _)) (pe_callTy call_list_of (by rfl) T.b_list (by decide +kernel) (pa_cons (pe_ix ix_tup (pv 0) pe_int (fun _ _ => rfl)) pa_nil)) (pe_lst (pa_star (pe_ix ix_tup (pv 0) pe_int (fun _ _ => rfl)) (pa_cons (pe_ix ix_tup (pv 0) pe_int (fun _ _ => rfl)) pa_nil)))))), ?_⟩
  refine ⟨_, rfl, f, _, 1, v, rfl, rfl, SqT.of hf, atI_nat (j := 1) rfl, rfl, _, rfl, ?_⟩
  by_cases ev : v = .non
  · have ee := (dx_nil he).mpr ev
    subst ev ee
    refine iteT ⟨_, rfl, f, _, 0, .ref t, rfl, rfl, SqT.of hf, atI_nat (j := 0) rfl, t, us, rfl, .inr (SqT.of ht), fun p np => ?_⟩
    exact q p us _ (same_put np) np upd_same (by rw [show endOf .none = [] from rfl, List.append_nil]; exact hu.up (same_put np))
  · have ee : e ≠ .none := fun z => ev ((dx_nil he).mp z)
    rw [decide_eq_false ev]
    refine iteF ⟨_, rfl, f, _, 0, .ref t, rfl, rfl, SqT.of hf, atI_nat (j := 0) rfl, t, us, rfl, .inl (SqT.of ht), ?_⟩
    refine ⟨_, rfl, f, _, 1, v, rfl, rfl, SqT.of hf, atI_nat (j := 1) rfl, ?_, fun p np => ?_⟩
    · have := hu.length
      rw [List.length_append]
      exact Nat.le_of_lt (small1000 (by show us.length + 1 ≤ 1000; omega))
    · exact q p _ _ (same_put np) np upd_same (by rw [endOf_some ee]; exact (DxAll.append hu (.cons he .nil)).up (same_put np))
/-- a couple's texts -/
def keyC : PyData → PyData
  | .tuple [a, b] => .tuple [.str (tS (tx a)), .str (tS (tx b))]
  | d => d
def chainD (ks : List PyData) : Bool := (ks.zip ks.tail).all fun p => PySem.W.dataLt p.1 p.2
def factB : PyData → PyData → Bool
  | .tuple ps, e => couplesD (ps ++ endOf e) && ((ps ++ endOf e).all ordC && chainD (ps.map keyC))
  | _, _ => false
def factD : PyData → Bool
  | .tuple [a, e] => factB a e
  | _ => false
theorem pure_keys : ∀ {ps : List PyData}, (∀ d, d ∈ ps → ∃ a b, d = .tuple [a, b] ∧ Wr a ∧ Wr b) → pureAll (ps.map keyC) = true
  | [], _ => rfl
  | d :: ps, h => by
    obtain ⟨a, b, rfl, _⟩ := h d List.mem_cons_self
    rw [List.map_cons, pureAll, pure_keys fun d hd => h d (List.mem_cons_of_mem _ hd)]
    rfl
def spFact (K : PySem.W.Frag) : Sp := fun vs H Q _ => ∃ (x : V) (d : PyData), vs = [x] ∧ Dx K H x d ∧ shortD d = true ∧ szD d ≤ 10000 ∧ (∀ ps e, d = .tuple [.tuple ps, e] → ps.length ≤ 100) ∧ ∀ H', Same H H' → Q (.bl (factD d)) H'
theorem ok_fact (T : Tx K mg) : FnOk P w K mg base CX0 5 T.ais_fact T.dis_fact ["value"] (spFact K) := by
  have nd := sc_is_fact.nd
  have G1 := ok_cp (P := P) (w := w) (base := base) T
  have G2 := ok_pi (P := P) (w := w) (base := base) T
  have G3 := ok_are (P := P) (w := w) (base := base) T
  have G4 := ok_ord (P := P) (w := w) (base := base) T
  have G5 := ok_key (P := P) (w := w) (base := base) T
  refine T.fis_fact.ok sc_is_fact (fun vs H Q E h => ?_) (fun cdv A outer s H vs Q E hr h => ?_)
  · obtain ⟨x, d, rfl, _⟩ := h
    rfl
  obtain ⟨x, d, rfl, hx, sh, sz, few, q⟩ := h
  refine ⟨_, (pss_cons (ps_if (PW.pt (pw_or (pt_not (pt_val (pe_call G1 (hr.mono (by omega)) (by rfl) T.gis_couple T.fis_couple.kp T.nis_couple .nil pass0 (pa_cons (pv 0) pa_nil)))) (pw_or1 (pt_not (pt_val (pe_callB call_isi (by rfl) T.b_isinstance (by decide +kernel) (pa_cons (pe_ix ix_tup (pv 0) pe_int (fun _ _ => rfl)) (pa_cons (pe_bltn (v := .ty "tuple") (by rfl) T.b_tuple (by decide +kernel) rfl) pa_nil)))))))) (pss_one (ps_ret pe_bl)) pss_nil)
      (pss_cons (ps_set (i := 1) nd rfl (.inl rfl) (pe_call G2 (hr.mono (by omega)) (by rfl) T.gpairs_in T.fpairs_in.kp T.npairs_in .nil pass0 (pa_cons (pv 0) pa_nil)))
      (pss_cons (ps_if (PW.pt (pw_or (pt_not (pt_val (pe_call G3 (hr.mono (by omega)) (by rfl) T.gare_couples T.fare_couples.kp T.nare_couples .nil pass0 (pa_cons (pv 1) pa_nil)))) (pw_or1 (pt_not (pt_val (pe_callB (cr_all rfl) (by rfl) T.b_all (by decide +kernel) (pa_cons (pe_lc (own := [("pair", 3)]) (g := (gName 3)) (tt := tYes) (by rfl) nd (pi_list (pv 1)) (blkOk_by (own := [("pair", 3)]) (N := N_is_fact) (sc := defScope s_is_fact) (by decide +kernel)) (fun _ _ _ _ _ => pg_name (i := 3) nd rfl (.inl rfl)) (fun _ _ _ _ _ => pts_nil) (fun _ _ _ _ _ => (pe_call G4 (hr.mono (by omega)) (by rfl) T.gis_ordered T.fis_ordered.kp T.nis_ordered .nil pass0 (pa_cons (pv 3) pa_nil)))) pa_nil))))))) (pss_one (ps_ret pe_bl)) pss_nil)
      (pss_cons (ps_setLc (i := 2) (own := [("pair", 3)]) (g := (gName 3)) (tt := tYes) (by rfl) nd rfl rfl (sw_true rfl rfl rfl (by decide +kernel)) (pi_tup (pe_ix ix_tup (pv 0) pe_int (fun _ _ => rfl))) (blkOk_by (own := [("pair", 3)]) (N := N_is_fact) (sc := defScope s_is_fact) (by decide +kernel)) (fun _ _ _ _ _ => pg_name (i := 3) nd rfl (.inl rfl)) (fun _ _ _ _ _ => pts_nil) (fun _ _ _ _ _ => (pe_call G5 (hr.mono (by omega)) (by rfl) T.gkey_of T.fkey_of.kp T.nkey_of .nil pass0 (pa_cons (pv 3) pa_nil))))
      (pss_one (ps_ret (pe_callB (cr_all rfl) (by rfl) T.b_all (by decide +kernel) (pa_cons (pe_lc (own := [("key", 4), ("further", 5)]) (g := (gTup K 2 (gCons (gName 4) (gCons (gName 5) gNil)))) (tt := tYes) (by rfl) nd (pi_zip (by rfl) T.b_zip (pa_cons (pv 2) (pa_cons (pe_slice sl_list (pv 2) (po_some pe_int) po_none) pa_nil))) (blkOk_by (own := [("key", 4), ("further", 5)]) (N := N_is_fact) (sc := defScope s_is_fact) (by decide +kernel)) (fun _ _ _ _ _ => pg_tup rfl (pgs_cons (pg_name (i := 4) nd rfl (.inl rfl)) (pgs_cons (pg_name (i := 5) nd rfl (.inl rfl)) pgs_nil))) (fun _ _ _ _ _ => pts_nil) (fun _ _ _ _ _ => (pe_cmpR (r := rLtD K) (op_ltD hr.units) (pv 4) (pv 5) (nomark _)))) pa_nil)))))))), ?_⟩
  have no : factD d = false → ∀ H', Same H H' → Q (.bl false) H' := fun e H' s => by
    have := q H' s
    rw [e] at this
    exact this
  refine ⟨_, rfl, x, d, rfl, hx, _, rfl, ?_⟩
  cases hcd : coupleD d with
  | false =>
    refine iteT (no ?_ H (Same.refl H))
    match d, hcd with
    | .tuple [], _ | .tuple [_], _ | .tuple (_ :: _ :: _ :: _), _ => rfl
    | .none, _ | .bool _, _ | .int _, _ | .str _, _ | .list _, _ | .dict _, _ => rfl
  | true =>
  obtain ⟨d0, e, rfl⟩ := couple_eq hcd
  obtain ⟨f, x0, v, rfl, hf, h0, hv⟩ := dx_couple hx
  refine iteF ⟨_, rfl, f, _, 0, x0, rfl, rfl, SqT.of hf, atI_nat (j := 0) rfl, x0, .ty "tuple", _, _, _, rfl, .ty _, h0.ty, kit_ty (kit_tuple d0), _, rfl, ?_⟩
  match d0, h0 with
  | .none, _ | .bool _, _ | .int _, _ | .str _, _ | .list _, _ | .dict _, _ => exact iteT (no rfl H (Same.refl H))
  | .tuple ps, h0 =>
  cases h0 with
  | @tup t us _ ht hu =>
  have fps := few ps e rfl
  refine iteF ⟨_, rfl, f, t, us, v, ps, e, rfl, hf, ht, hu, hv, by omega, fun p ys H1 s1 np hp dy => ?_⟩
  have sh2 : shortAll ps = true ∧ shortD e = true := by
    have : shortAll [.tuple ps, e] = true := sh
    simpa [shortAll, shortD] using this
  have z2 : szAll (ps ++ endOf e) ≤ 10000 := by
    have : szAll (endOf e) ≤ szD e := by cases e <;> simp [endOf, szAll, szD]
    rw [szAll_append]
    simp only [szD, szAll] at sz
    omega
  have sh3 : shortAll (ps ++ endOf e) = true := by
    rw [shortAll_append, sh2.1, Bool.true_and]
    have := sh2.2
    cases e <;> simp_all [endOf, shortAll]
  have l3 : (ps ++ endOf e).length ≤ 101 := by
    rw [List.length_append]
    have : (endOf e).length ≤ 1 := by cases e <;> simp [endOf]
    omega
  refine ⟨_, rfl, p, ys, _, rfl, SqL.of hp, dy, sh3, by omega, by omega, fun H2 s2 => ⟨_, rfl, ?_⟩⟩
  have s12 := s1.trans s2
  have ef : factD (.tuple [.tuple ps, e]) = (couplesD (ps ++ endOf e) && ((ps ++ endOf e).all ordC && chainD (ps.map keyC))) := rfl
  cases hcs : couplesD (ps ++ endOf e) with
  | false => exact iteT (no (by rw [ef, hcs]; rfl) H2 s12)
  | true =>
  have wr := couples_wr hcs z2
  rw [hcs, Bool.true_and] at ef
  have hp2 := s2 _ _ hp
  have dy2 := dy.up s2
  refine iteF ⟨_, rfl, p, rfl, ⟨_, SqL.of hp2⟩, fun D nD => ?_⟩
  have ly := dy2.length
  refine lc_list (K := K) (a := p) (xs := ys) (fun i G => Same H2 G ∧ G D = some (.lst ((((ps ++ endOf e).take i).map ordC).map V.bl))) ⟨same_put nD, upd_same⟩ (fun i G _ h => SqL.of (h.1 _ _ hp2)) ?_ ?_
  · rintro i x G hi ⟨sG, eD⟩
    have lti : i < (ps ++ endOf e).length := by rw [← ly]; exact (List.getElem?_eq_some_iff.mp hi).1
    have gd := List.getElem?_eq_getElem lti
    obtain ⟨v2, hv2, dv⟩ := dy2.get gd
    rw [hi] at hv2
    cases hv2
    obtain ⟨a, b, eab, wa, wb⟩ := wr _ (List.getElem_mem lti)
    rw [eab] at dv
    obtain ⟨q0, u, v3, rfl, hq0, du, dv3⟩ := dx_couple dv
    refine ⟨rfl, (iteT (B := False) ?_ : if true = true then _ else False)⟩
    refine ⟨_, rfl, q0, u, v3, a, b, rfl, sG _ _ hq0, du.up sG, dv3.up sG, wa, wb, fun H3 s3 => ⟨_, s3 _ _ eD, ?_, fun c o hc => ?_, ?_⟩⟩
    · rw [List.length_map, List.length_map, List.length_take]
      exact small1000 (by omega)
    · rw [upd_ne (ne_of_none hc nD)]
      exact s3 _ _ (sG c o hc)
    · rw [upd_same, List.take_add_one, gd, List.map_append, List.map_append, eab]
      rfl
  · rintro G ⟨sG, eD⟩
    rw [ly, List.take_length] at eD
    refine ⟨D, _, rfl, .inl (.inl eD), _, rfl, ?_⟩
    have eall : (((ps ++ endOf e).map ordC).all id) = (ps ++ endOf e).all ordC := by
      rw [List.all_map]
      rfl
    rw [eall]
    have s3 := s12.trans sG
    cases ho : (ps ++ endOf e).all ordC with
    | false => exact iteT (no (by rw [ef, ho]; rfl) G s3)
    | true =>
    rw [ho, Bool.true_and] at ef
    refine iteF ?_
    have wps : ∀ d, d ∈ ps → ∃ a b, d = .tuple [a, b] ∧ Wr a ∧ Wr b := fun d hd => wr d (List.mem_append_left _ hd)
    have lu := hu.length
    refine ⟨_, rfl, f, _, 0, .ref t, rfl, rfl, SqT.of (s3 _ _ hf), atI_nat (j := 0) rfl, t, rfl, ⟨_, SqT.of (s3 _ _ ht)⟩, fun D2 nD2 => ?_⟩
    refine lc_tup (K := K) (a := t) (xs := us) (fun i G2 => Same G G2 ∧ ∃ vs, G2 D2 = some (.lst vs) ∧ DxAll K G2 vs ((ps.take i).map keyC)) ⟨same_put nD2, [], upd_same, .nil⟩ (fun i G2 _ h => SqT.of (h.1 _ _ (s3 _ _ ht))) ?_ ?_
    · rintro i x G2 hi ⟨sG2, vs, eD2, dk⟩
      have lti : i < ps.length := by rw [← lu]; exact (List.getElem?_eq_some_iff.mp hi).1
      have gd := List.getElem?_eq_getElem lti
      obtain ⟨v2, hv2, dv⟩ := hu.get gd
      rw [hi] at hv2
      cases hv2
      obtain ⟨a, b, eab, wa, wb⟩ := wps _ (List.getElem_mem lti)
      rw [eab] at dv
      obtain ⟨q0, u, v3, rfl, hq0, du, dv3⟩ := dx_couple dv
      have sHG := s3.trans sG2
      refine ⟨rfl, (iteT (B := False) ?_ : if true = true then _ else False)⟩
      refine ⟨_, rfl, q0, u, v3, a, b, rfl, sHG _ _ hq0, du.up sHG, dv3.up sHG, wa, wb, fun k G3 sG3 nk hk => ⟨_, sG3 _ _ eD2, ?_, fun c o hc => ?_, vs ++ [.ref k], upd_same, ?_⟩⟩
      · rw [dk.length, List.length_map, List.length_take]
        exact small1000 (by omega)
      · rw [upd_ne (ne_of_none hc nD2)]
        exact sG3 _ _ (sG2 c o hc)
      · have nkD : k ≠ D2 := (ne_of_none eD2 nk).symm
        have e1 : (ps.take (i + 1)).map keyC = (ps.take i).map keyC ++ [keyC ps[i]] := by
          rw [List.take_add_one, gd, List.map_append]
          rfl
        rw [e1, eab]
        refine DxAll.append (DxAll.ts (Tups.lst (sG3 _ _ eD2)) _ _ ?_ (dk.up sG3)) (.cons (.tup (by rw [upd_ne nkD]; exact hk) (.cons (.str _) (.cons (.str _) .nil))) .nil)
        exact pure_keys fun d hd => wps d (List.mem_of_mem_take hd)
    · rintro G2 ⟨sG2, vs, eD2, dk⟩
      rw [lu, List.take_length] at dk
      refine ⟨_, rfl, _, rfl, 1, rfl, ?_⟩
      dsimp only [tNoPart]
      refine ⟨D2, vs, rfl, SqL.of eD2, fun D3 nD3 => ?_⟩
      have ec : cutV vs (some 1) none = vs.drop 1 := by
        cases vs with
        | nil => rfl
        | cons a b => exact cut_one (by simp)
      rw [ec]
      have s4 := s3.trans (sG2.trans (same_put (o := .lst (vs.drop 1)) nD3))
      have eD24 := same_put (o := .lst (vs.drop 1)) nD3 _ _ eD2
      have dk4 := dk.up (same_put (o := .lst (vs.drop 1)) nD3)
      have eD3 : (upd G2 D3 (.lst (vs.drop 1))) D3 = some (.lst (vs.drop 1)) := upd_same
      generalize upd G2 D3 (.lst (vs.drop 1)) = G3 at s4 eD24 dk4 eD3 ⊢
      refine ⟨D2, D3, vs, vs.drop 1, rfl, SqL.of eD24, SqL.of eD3, fun D4 nD4 => ?_⟩
      have lk : vs.length = ps.length := by rw [dk.length, List.length_map]
      obtain ⟨ks, eks⟩ : ∃ ks, ks = ps.map keyC := ⟨_, rfl⟩
      have lks : ks.length = vs.length := by rw [eks, List.length_map, lk]
      obtain ⟨cs, ecs⟩ : ∃ cs : List Bool, cs = (ks.zip ks.tail).map fun p => PySem.W.dataLt p.1 p.2 := ⟨_, rfl⟩
      have lcs : cs.length = vs.length - 1 := by
        rw [ecs, List.length_map, List.length_zip, List.length_tail, lks]
        omega
      rw [← eks] at dk4 ef
      refine lc_it (walk_zip (n := vs.length - 1) (by rw [List.length_drop]; omega)) (fun i G4 => Same G3 G4 ∧ G4 D4 = some (.lst ((cs.take i).map V.bl))) ⟨same_put nD4, upd_same⟩ (fun i G4 _ h => ⟨SqL.of (h.1 _ _ eD24), SqL.of (h.1 _ _ eD3)⟩) ?_ ?_
      · rintro i x G4 G5 hi ⟨sG4, eD4⟩ ⟨T5, u, v5, rfl, nT5, rfl, hu5, hv5⟩
        have hi1 : i < ks.length := by omega
        have hi2 : i + 1 < ks.length := by omega
        have hu5 : vs[i]? = some u := hu5
        have hv5 : (vs.drop 1)[i]? = some v5 := hv5
        rw [List.getElem?_drop, Nat.add_comm] at hv5
        have g1 := List.getElem?_eq_getElem hi1
        have g2 := List.getElem?_eq_getElem hi2
        obtain ⟨u', hu', du⟩ := dk4.get g1
        obtain ⟨v', hv', dv⟩ := dk4.get g2
        rw [hu5] at hu'
        rw [hv5] at hv'
        cases hu'
        cases hv'
        have kd : ∀ (j : Nat) (hj : j < ks.length), ∃ x y : Str, ks[j] = .tuple [.str x, .str y] := fun j hj => by
          have lt : j < ps.length := by omega
          obtain ⟨a, b, e1, _⟩ := wps ps[j] (List.getElem_mem lt)
          refine ⟨tS (tx a), tS (tx b), ?_⟩
          have : ks[j]? = some (keyC ps[j]) := by rw [eks, List.getElem?_map, List.getElem?_eq_getElem lt]; rfl
          rw [List.getElem?_eq_getElem hj, e1] at this
          exact Option.some.inj this
        obtain ⟨x1, y1, k1⟩ := kd i hi1
        obtain ⟨x2, y2, k2⟩ := kd (i + 1) hi2
        have s5 := sG4.trans (same_put (o := .tup [u, v5]) nT5)
        have eD5 := same_put (o := .tup [u, v5]) nT5 _ _ eD4
        have eT5 : (upd G4 T5 (.tup [u, v5])) T5 = some (.tup [u, v5]) := upd_same
        generalize upd G4 T5 (.tup [u, v5]) = G5 at s5 eD5 eT5 ⊢
        refine ⟨T5, _, rfl, SqT.of eT5, rfl, _, _, rfl, _, _, rfl, rfl, rfl, (iteT (B := False) ?_ : if true = true then _ else False)⟩
        refine ⟨_, rfl, _, rfl, ks[i], ks[i + 1], du.up s5, dv.up s5, by rw [k1, k2]; rfl, by rw [k1]; simp, by rw [k1]; simp [PyData.depth, PyData.depthAll], _, eD5, ?_, fun c o hc => ?_, ?_⟩
        · rw [List.length_map, List.length_take]
          exact small1000 (by omega)
        · rw [upd_ne (ne_of_none hc nD4)]
          exact s5 _ _ hc
        · have gc : cs[i]? = some (PySem.W.dataLt ks[i] ks[i + 1]) := by
            have ez : (ks.zip ks.tail)[i]? = some (ks[i], ks[i + 1]) := List.getElem?_zip_eq_some.mpr ⟨g1, by rw [List.getElem?_tail]; exact g2⟩
            rw [ecs, List.getElem?_map, ez]
            rfl
          rw [upd_same, List.take_add_one, gc, List.map_append]
          rfl
      · rintro G4 ⟨sG4, eD4⟩
        rw [← lcs, List.take_length] at eD4
        refine ⟨D4, _, rfl, .inl (.inl eD4), ?_⟩
        have q := q G4 (s4.trans sG4)
        rw [ef] at q
        have e : cs.all id = chainD ks := by
          rw [ecs, List.all_map]
          rfl
        rw [← e] at q
        exact q
end
end K13
/-! xs.count(y), flat items. -/
namespace Kx
open PySem PySem.Spec PyProof.Rows L2
def rCountF (K : PySem.W.Frag) : V → List V → Hp → VK → Prop := fun x xs H Q => ∃ (a : Addr) (ys : List V) (y : V), x = .ref a ∧ xs = [y] ∧ SqL K H a ys ∧ flatV y = true ∧ ys.all flatV = true ∧ Q (.int ((ys.countP fun z => eqV z y : Nat) : Int)) H
theorem count_eqU {x : V} : ∀ {xs : List V} {us : List Value}, Vals xs us → xs.all flatV = true → us.countP (eqU x) = xs.countP fun y => eqV y x
  | _, _, .nil, _ => rfl
  | y :: xs, u :: us, .cons r t, f => by
    rw [List.all_cons, Bool.and_eq_true] at f
    rw [List.countP_cons, List.countP_cons, count_eqU t f.2, eqU_of r f.1]
theorem mt_countF {X : Cx} : MtR X "list.count" (rCountF X.K) := by
  intro pins s σ H x xs v us Q I rx rxs h
  obtain ⟨p, ys, y, rfl, rfl, hs, fy, fys, q⟩ := h
  cases rx
  obtain ⟨u, rfl, ru⟩ := rxs.one
  obtain ⟨its, rv, ⟨⟨cls, dd, data, sl⟩, n, ho, hc, hdn, hd⟩, hlen⟩ := I.list hs
  simp only at hc hd
  subst hc hd
  refine call_meets PySem.F.slot_list_count ⟨_, ho, rfl⟩ PySem.F.entry_list_count (PySem.F.args_list_count_2 _ _)
    (SeqAt.list_countAt p its.toArray n dd sl u (eqU y)) ⟨ho, fun u' hu' => mem_eqAt ru fy rv fys u' (by simpa using hu'), ?_⟩
  have ec : its.toArray.toList.countP (eqU y) = ys.countP fun z => eqV z y := count_eqU rv fys
  refine ⟨.int ((ys.countP fun z => eqV z y : Nat) : Int), H, I.tok _, ⟨s.toks, ?_⟩, q⟩
  show Value.int ((its.toArray.toList.countP (eqU y) : Nat) : Int) s.toks = Value.int ((ys.countP (fun z => eqV z y) : Nat) : Int) s.toks
  rw [ec]
end Kx
/-! A lambda handed to a def that tells by two except clauses. -/
namespace Kx
open PySem PySem.Spec PyProof.Rows L2 LamX
theorem takes00 {X : Cx} : Takes X (fun _ _ _ _ => False) := LamX.takes0
def Told2 (K : PySem.W.Frag) (C1 C2 : Addr) (r1 r2 : Str) (Q : VK) : XK := fun cls _ H' =>
  ∃ b, PySem.W.exmOne K cls (.ref C1) = some b ∧ (b = true → Q (.str r1) H') ∧ (b = false → ∃ b2, PySem.W.exmOne K cls (.ref C2) = some b2 ∧ (b2 = true → Q (.str r2) H') ∧ (b2 = false → False))
def TTold2 (K : PySem.W.Frag) (C1 C2 : Addr) (r1 r2 : Str) : (XK → Hp → VK → Prop) → Hp → VK → Prop := fun tl H Q => tl (Told2 K C1 C2 r1 r2 Q) H Q
theorem told_gives2 {X : Cx} {Ng : List Str} {x a e1 e2 q r1 r2 : Str} {sg : Scope} {g C1 C2 : Addr} {cdg : Value} {j1 j2 : Nat} {p1 p2 p3 p4 p5 p6 p7 p8 p9 p10 p11 p12 : Pos}
    (hg1 : sg.names.lookup e1 = some .globalImplicit) (hm1 : X.mg e1 = some (.ref C1)) (hd1 : (e1 == ("__debug__" : Str)) = false)
    (hg2 : sg.names.lookup e2 = some .globalImplicit) (hm2 : X.mg e2 = some (.ref C2)) (hd2 : (e2 == ("__debug__" : Str)) = false) (h0 : ∀ f : Addr, (L2.start Ng [V.ref f])[0]? = some (some (V.ref f))) :
    GivesTo X Ng x sg g cdg [.Try [.Return (some (.Call (.Name a p1) [] [] p2)) p3] [.ExceptHandler (some (.Name e1 p4)) none [.Return (some (.Constant (.str r1) j1 p5)) p6] p7, .ExceptHandler (some (.Name e2 p9)) none [.Return (some (.Constant (.str r2) j2 p10)) p11] p12] [] [] p8] a q (TTold2 X.K C1 C2 r1 r2) := by
  intro f c' s H Q tl act hc h
  have gl1 : Gl (cxOf C8.CX0 X.prog X.w X.K X.mg X.base Ng x sg g cdg X.A X.stack s H C8.E0).nox e1 := hg1
  have gl2 : Gl (cxOf C8.CX0 X.prog X.w X.K X.mg X.base Ng x sg g cdg X.A X.stack s H C8.E0).nox e2 := hg2
  refine ⟨_, pss_one (ps_try_many (X := (cxOf C8.CX0 X.prog X.w X.K X.mg X.base Ng x sg g cdg X.A X.stack s H C8.E0).nox)
      (tb := fun W D σ H => ∃ Ech : XK, (∀ cls d σ' H', Ech cls d H' → W cls d σ' H') ∧ σ[0]? = some (some (.ref f)) ∧ H c' = some (CodeO c' q) ∧ tl Ech H D.rt)
      rfl rfl takes00 (fun W pn xe tk _ => ?_) (.cons ⟨gl1, hd1, .inl hm1⟩ (fun a oe cls d pn _ _ => pss_one (ps_ret pe_str)) (.cons ⟨gl2, hd2, .inl hm2⟩ (fun a oe cls d pn _ _ => pss_one (ps_ret pe_str)) .nil))), ?_⟩
  · refine ⟨fun pins s' σ H' D I h' => ?_⟩
    obtain ⟨Ech, hW, h1, h2, h3⟩ := h'
    have hp := act W pn xe Ech p1 p2 tk hW
    have hq := pss_one (ps_ret (pos := p3) hp)
    exact hq.run pins s' σ H' D I ⟨h1, h2, h3⟩
  · refine ⟨Told2 X.K C1 C2 r1 r2 Q, fun cls d σ' H' ⟨b, e1, q1, q2⟩ => ⟨b, e1, fun hb a _ => q1 hb, fun hb => ?_⟩, h0 f, hc, h⟩
    obtain ⟨b2, e2, z1, z2⟩ := q2 hb
    exact ⟨b2, e2, fun hb a _ => z1 hb, fun hb => z2 hb⟩
end Kx
/-! try .. except X as e: what the suite may lean on. -/
namespace Kx
open PySem PySem.Spec PyProof.Rows L2 LamX
theorem takes_len {X : Cx} {W : WX} (t : Takes X W) : Takes X (fun cls d σ H => σ.length = X.N.length → W cls d σ H) := fun u s' ⟨a, B, sI, pins, σ, H, cls, d, e, I, nb, up, sky, na, os, ag, w⟩ =>
  t u s' ⟨a, B, sI, pins, σ, H, cls, d, e, I, nb, up, sky, na, os, ag, w I.len⟩
theorem pss_guard {X : Cx} {b : List Stmt} {p : Prop} {t : TS} (h : p → PSs X b t) : PSs X b (fun D σ H => p ∧ t D σ H) := ⟨fun pins s σ H D I h' => (h h'.1).run pins s σ H D I h'.2⟩
theorem pe_bmK {X : Cx} {K : PySem.W.Frag} (hK : X.K = K) {T : String} {name : Str} {id : String} {r : V → List V → Hp → VK → Prop} {o e : Expr} {es : List Expr} {to : TE} {t : TA} {apos cpos : Pos} (pa : PlainAttrs T) (slot : Slot T name id) (hty : typeOf (.builtin id) = pure (.type "method_descriptor")) (hm : MtR X id r) (ho : PE X o to) (ha : PA X (e :: es) t)
    (hbase : attributeBase o name X.env (eval o X.env) = eval o X.env := by rfl)
    (hfew : ((backTo cpos (starEach (e :: es) X.env)).all (fun x => !x.1) && (backToKw cpos (keywordEach [] X.env)).all (fun x => x.1.isSome)
      && decide ((e :: es).length + ([] : List Keyword).length + (if ([] : List Keyword).isEmpty then 0 else 1) < 30)) = true := by rfl)
    (hline : (apos.endLine == cpos.line) = true := by rfl) (hs : starEach (e :: es) X.env = (false, eval e X.env) :: starEach es X.env := by rfl) (hplain : (backTo cpos (starEach es X.env)).any (·.1) = false := by rfl) :
    PE X (.Call (.Attribute o name apos) (e :: es) [] cpos) (tBM K T r to t) := by
  subst hK
  exact pe_bm pa slot hty hm ho ha hbase hfew hline hs hplain
theorem pss_false {X : Cx} {b : List Stmt} : PSs X b (fun _ _ _ => False) := ⟨fun pins s σ H D I h => h.elim⟩
end Kx
/-! A list or a tuple walked; check_fact; pairs_of. -/
namespace Kx
open PySem PySem.Spec PyProof.Rows L2
/-- what a list or a tuple holds -/
def Sq (K : PySem.W.Frag) (H : Hp) (a : Addr) (xs : List V) : Prop := SqL K H a xs ∨ SqT K H a xs
def iSeq (K : PySem.W.Frag) (tl : TE) : TI := fun σ H R => tl σ H fun x H1 => ∃ a, x = .ref a ∧ (((∃ xs, SqL K H1 a xs) ∧ R (Itl K a) H1) ∨ ((∃ xs, SqT K H1 a xs) ∧ R (Itt K a) H1))
theorem pi_seq {X : Cx} {tg l : Expr} {tl : TE} (hl : PE X l tl) : PI X tg l (iSeq X.K tl) := by
  refine ⟨fun pins s σ H R I h => ?_⟩
  refine thn (hl.run pins s σ H _ I h) fun v s1 ⟨x, H1, I1, r1, q1⟩ => ?_
  obtain ⟨a, e, q⟩ := q1
  subst e
  cases r1
  rcases q with ⟨⟨xs, hq⟩, q⟩ | ⟨⟨xs, hq⟩, q⟩
  · obtain ⟨its, rv, p, hz⟩ := I1.list hq
    refine wpAny_pyIter_list p.isList ?_
    refine ⟨s1.heap.objs.size, [s1.heap.objs.size], _, _, H1, rfl, I1.kept (t' := s1.toks) fun b o e => Heap.get?_push_of_some _ e, turn_list a _, ⟨_, Heap.get?_push_size _ rfl, rfl, rfl⟩, fun b hb => ?_, q⟩
    have e : b = s1.heap.objs.size := by simpa using hb
    subst e
    exact I1.fpOk (Nat.le_refl _) (I1.hok.fresh (Nat.le_refl _))
  · obtain ⟨its, rv, p, hz⟩ := I1.tuple hq
    refine wpAny_pyIter_tuple (show s1.heap.IsTuple a its.toArray from p) ?_
    refine ⟨s1.heap.objs.size, [s1.heap.objs.size], _, _, H1, rfl, I1.kept (t' := s1.toks) fun b o e => Heap.get?_push_of_some _ e, turn_tuple a _, ⟨_, Heap.get?_push_size _ rfl, rfl, rfl⟩, fun b hb => ?_, q⟩
    have e : b = s1.heap.objs.size := by simpa using hb
    subst e
    exact I1.fpOk (Nat.le_refl _) (I1.hok.fresh (Nat.le_refl _))
end Kx
namespace K13
open PySem PySem.Spec PyProof.Rows L2 Kx
section
variable {P : Program} {w : World} {K : PySem.W.Frag} {mg : Str → Option Value} {base : Heap}
/-- what may be asked whether it is a fact -/
structure Fz (K : PySem.W.Frag) (H : Hp) (x : V) (d : PyData) : Prop where
  dx : Dx K H x d
  sh : shortD d = true
  sz : szD d ≤ 10000
  few : ∀ ps e, d = .tuple [.tuple ps, e] → ps.length ≤ 100
theorem Fz.up {H H' : Hp} {x : V} {d : PyData} (h : Fz K H x d) (s : Same H H') : Fz K H' x d := ⟨h.dx.up s, h.sh, h.sz, h.few⟩
def spCkF (K : PySem.W.Frag) (C : Addr) : Sp := fun vs H Q E => ∃ (x : V) (d : PyData), vs = [x] ∧ Fz K H x d ∧ (factD d = true → ∀ H', Same H H' → Q .non H') ∧ (factD d = false → ∀ H', Same H H' → E (.ref C) none H')
theorem ok_ckf (T : Tx K mg) : FnOk P w K mg base (L2.CX P w) 6 T.acheck_fact T.dcheck_fact ["value"] (spCkF K T.CInvalidFact) := by
  have nd := sc_check_fact.nd
  have G := ok_fact (P := P) (w := w) (base := base) T
  refine T.fcheck_fact.okX sc_check_fact (fun vs H Q E h => ?_) (fun cdv A outer s H vs Q E hr h => ?_)
  · obtain ⟨x, d, rfl, _⟩ := h
    rfl
  obtain ⟨x, d, rfl, hx, q1, q0⟩ := h
  refine ⟨_, (pss_one (ps_if (pt_not (pt_val (pe_call G (hr.mono (by omega)) (by rfl) T.gis_fact T.fis_fact.kp T.nis_fact .nil pass0 (pa_cons (pv 0) pa_nil)))) (pss_one (ps_raise rfl (takes_of rfl rfl rfl rfl) (pmk_own PySem.F.excBase_ValueError T.xInvalidFact T.gInvalidFact T.kInvalidFact (raises_own T.bInvalidFact T.tInvalidFact) (by rfl)))) pss_nil)), ?_⟩
  refine ⟨_, rfl, x, d, rfl, hx.dx, hx.sh, hx.sz, hx.few, fun H' sm => ⟨_, rfl, ?_⟩⟩
  cases t : factD d with
  | false => exact iteT (q0 t H' sm)
  | true => exact iteF (q1 t H' sm)
end
end K13
/-! Sorted lists of data. -/
namespace Kx
open PySem PySem.W PyProof.Rows
def ltR (x y : PyData) : Prop := dataLt x y = true
instance (x y : PyData) : Decidable (ltR x y) := inferInstanceAs (Decidable (_ = true))
theorem ltR_irrefl (x : PyData) : ¬ ltR x x := fun h => by
  have : dataLt x x = false := lex_irrefl _
  unfold ltR at h
  rw [this] at h
  cases h
theorem ltR_trans {x y z : PyData} (h1 : ltR x y) (h2 : ltR y z) : ltR x z := lex_trans _ _ _ h1 h2
theorem ltR_asymm {x y : PyData} (h1 : ltR x y) (h2 : ltR y x) : False := ltR_irrefl x (ltR_trans h1 h2)
/-- two sorted lists with the same members are one -/
theorem uniq_sorted {α : Type} {r : α → α → Prop} (irr : ∀ x, ¬ r x x) (tr : ∀ {x y z}, r x y → r y z → r x z) : ∀ {l m : List α}, l.Pairwise r → m.Pairwise r → (∀ x, x ∈ l ↔ x ∈ m) → l = m
  | [], [], _, _, _ => rfl
  | [], y :: m, _, _, h => by cases (h y).mpr List.mem_cons_self
  | x :: l, [], _, _, h => by cases (h x).mp List.mem_cons_self
  | x :: l, y :: m, hl, hm, h => by
    rw [List.pairwise_cons] at hl hm
    have e : x = y := by
      rcases List.mem_cons.mp ((h x).mp List.mem_cons_self) with e | h1
      · exact e
      · rcases List.mem_cons.mp ((h y).mpr List.mem_cons_self) with e | h2
        · exact e.symm
        · exact absurd (tr (hl.1 y h2) (hm.1 x h1)) (irr x)
    subst e
    have ih : l = m := uniq_sorted irr tr hl.2 hm.2 fun z => by
      constructor
      · intro hz
        rcases List.mem_cons.mp ((h z).mp (List.mem_cons_of_mem _ hz)) with e | h1
        · subst e
          exact absurd (hl.1 z hz) (irr z)
        · exact h1
      · intro hz
        rcases List.mem_cons.mp ((h z).mpr (List.mem_cons_of_mem _ hz)) with e | h1
        · subst e
          exact absurd (hm.1 z hz) (irr z)
        · exact h1
    rw [ih]
theorem uniq_data {l m : List PyData} (hl : l.Pairwise ltR) (hm : m.Pairwise ltR) (h : ∀ x, x ∈ l ↔ x ∈ m) : l = m := uniq_sorted ltR_irrefl ltR_trans hl hm h
/-- what sorted leaves, where no two are alike -/
theorem sort_strict {β : Type} {k : β → PyData} {l : List β} (nd : (l.map fun b => keyToks (k b)).Nodup) : (l.mergeSort (dataLe false k)).Pairwise fun a b => ltR (k a) (k b) := by
  have tr : ∀ a b c : β, dataLe false k a b = true → dataLe false k b c = true → dataLe false k a c = true := fun a b c h1 h2 => by
    have h1 : dataLt (k b) (k a) = false := by simpa [dataLe_eq] using h1
    have h2 : dataLt (k c) (k b) = false := by simpa [dataLe_eq] using h2
    rw [dataLe_eq]
    show (!dataLt (k c) (k a)) = true
    cases h : dataLt (k c) (k a) with
    | false => rfl
    | true =>
      rcases lex_negTrans _ (keyToks (k b)) _ h with z | z
      · exact absurd (show dataLt (k c) (k b) = true from z) (by rw [h2]; decide)
      · exact absurd (show dataLt (k b) (k a) = true from z) (by rw [h1]; decide)
  have tot : ∀ a b : β, (dataLe false k a b || dataLe false k b a) = true := fun a b => by
    rw [dataLe_eq]
    show (!dataLt (k b) (k a) || !dataLt (k a) (k b)) = true
    cases h : dataLt (k b) (k a) with
    | false => rfl
    | true =>
      cases h2 : dataLt (k a) (k b) with
      | false => rfl
      | true => exact (ltR_asymm (x := k b) (y := k a) h h2).elim
  have p := List.pairwise_mergeSort tr tot l
  have nd2 : ((l.mergeSort (dataLe false k)).map fun b => keyToks (k b)).Nodup := ((List.mergeSort_perm l _).map _).nodup_iff.mpr nd
  rw [List.Nodup, List.pairwise_map] at nd2
  refine List.Pairwise.imp₂ (fun {a b} h1 h2 => ?_) p nd2
  have h1 : dataLt (k b) (k a) = false := by simpa [dataLe_eq] using h1
  show dataLt (k a) (k b) = true
  cases h : dataLt (k a) (k b) with
  | true => rfl
  | false => exact absurd (lex_total _ _ h h1) h2
end Kx
/-! The order of texts is the order of terms. -/
namespace K13
open PySem PySem.Spec PyProof.Rows L2 Kx PySem.W
/-- what may stand behind a term -/
def TailOk : List Nat → Prop
  | [] => True
  | c :: _ => c < 97
theorem nm_ord : ∀ (x y : List Nat), (∀ c, c ∈ x → 97 ≤ c) → (∀ c, c ∈ y → 97 ≤ c) → x ≠ y → ∀ u v, TailOk u → TailOk v → (x ++ u < y ++ v ↔ x < y)
  | [], [], _, _, ne, _, _, _, _ => absurd rfl ne
  | [], c :: y, _, hy, _, u, v, hu, _ => by
    have hc := hy c List.mem_cons_self
    refine iff_of_true ?_ (by simp)
    cases u with
    | nil => simp
    | cons d u =>
      have hd : d < 97 := hu
      simp only [List.nil_append, List.cons_append, List.cons_lt_cons_iff]
      omega
  | c :: x, [], hx, _, _, u, v, _, hv => by
    have hc := hx c List.mem_cons_self
    refine iff_of_false ?_ (by simp)
    cases v with
    | nil => simp
    | cons d v =>
      have hd : d < 97 := hv
      simp only [List.nil_append, List.cons_append, List.cons_lt_cons_iff]
      omega
  | c :: x, d :: y, hx, hy, ne, u, v, hu, hv => by
    simp only [List.cons_append, List.cons_lt_cons_iff]
    by_cases e : c = d
    · subst e
      have ih := nm_ord x y (fun z hz => hx z (List.mem_cons_of_mem _ hz)) (fun z hz => hy z (List.mem_cons_of_mem _ hz)) (fun z => ne (by rw [z])) u v hu hv
      simp [ih]
    · simp [e]
theorem pre_ord : ∀ (x u v : List Nat), (x ++ u < x ++ v ↔ u < v)
  | [], _, _ => Iff.rfl
  | c :: x, u, v => by
    have ih := pre_ord x u v
    simp only [List.cons_append, List.cons_lt_cons_iff]
    simp [ih]
theorem letters {x : Str} (h : isNm x = true) : ∀ c, c ∈ x.cps.toList → 97 ≤ c := fun c hc => by
  simp only [isNm, Bool.and_eq_true, decide_eq_true_eq] at h
  have := (Array.all_eq_true'.mp h.2) c (Array.mem_toList_iff.mp hc)
  simp only [letter, Bool.and_eq_true, decide_eq_true_eq] at this
  exact this.1
mutual
theorem alike_formed : ∀ (d e : PyData), formedD d = true → formedD e = true → alike d e = true
  | .tuple (a :: ds), e, hd, he => by
    obtain ⟨y, es, rfl, _, _, hes⟩ := formed_shape he
    obtain ⟨x, ds', ed, _, _, hds⟩ := formed_shape hd
    injection ed with ed
    injection ed with e1 e2
    subst e1 e2
    simp only [alike, alikeAll, Bool.true_and]
    exact alike_formedAll ds es hds hes
  | .tuple [], _, hd, _ => by cases hd
  | .none, _, hd, _ => by cases hd
  | .bool _, _, hd, _ => by cases hd
  | .int _, _, hd, _ => by cases hd
  | .str _, _, hd, _ => by cases hd
  | .list _, _, hd, _ => by cases hd
  | .dict _, _, hd, _ => by cases hd
theorem alike_formedAll : ∀ (ds es : List PyData), formedAll ds = true → formedAll es = true → alikeAll ds es = true
  | [], _, _, _ => by simp [alikeAll]
  | _ :: _, [], _, _ => by simp [alikeAll]
  | d :: ds, e :: es, hd, he => by
    rw [formedAll, Bool.and_eq_true] at hd he
    rw [alikeAll, alike_formed d e hd.1 he.1, alike_formedAll ds es hd.2 he.2]
    rfl
end
mutual
theorem eqv_formed : ∀ (d e : PyData), formedD d = true → formedD e = true → (PyData.eqv d e = true ↔ d = e)
  | .tuple (a :: ds), e, hd, he => by
    obtain ⟨y, es, rfl, _, _, hes⟩ := formed_shape he
    obtain ⟨x, ds', ed, _, _, hds⟩ := formed_shape hd
    injection ed with ed
    injection ed with e1 e2
    subst e1 e2
    have ih := eqv_formedAll ds es hds hes
    rw [PyData.eqv, PyData.eqvAll, PyData.eqv, Bool.and_eq_true, ih, beq_iff_eq]
    simp
  | .tuple [], _, hd, _ => by cases hd
  | .none, _, hd, _ => by cases hd
  | .bool _, _, hd, _ => by cases hd
  | .int _, _, hd, _ => by cases hd
  | .str _, _, hd, _ => by cases hd
  | .list _, _, hd, _ => by cases hd
  | .dict _, _, hd, _ => by cases hd
theorem eqv_formedAll : ∀ (ds es : List PyData), formedAll ds = true → formedAll es = true → (PyData.eqvAll ds es = true ↔ ds = es)
  | [], [], _, _ => by simp [PyData.eqvAll]
  | [], _ :: _, _, _ => by simp [PyData.eqvAll]
  | _ :: _, [], _, _ => by simp [PyData.eqvAll]
  | d :: ds, e :: es, hd, he => by
    rw [formedAll, Bool.and_eq_true] at hd he
    rw [PyData.eqvAll, Bool.and_eq_true, eqv_formed d e hd.1 he.1, eqv_formedAll ds es hd.2 he.2]
    simp
end
/-- some rows of which each name has one number of places -/
abbrev Fn2 (a b : List NK) : Prop := Func (a ++ b)
theorem Func.sub {l m : List NK} (h : Func m) (s : ∀ p, p ∈ l → p ∈ m) : Func l := fun p hp q hq => h p (s p hp) q (s q hq)
mutual
theorem tx_ord : ∀ (d e : PyData), formedD d = true → formedD e = true → Func (rowsD d ++ rowsD e) → d ≠ e → ∀ u v, TailOk u → TailOk v → (tx d ++ u < tx e ++ v ↔ dataLt d e = true)
  | .tuple (a :: ds), e, hd, he, F, ne, u, v, hu, hv => by
    obtain ⟨y, es, rfl, _, hy, hes⟩ := formed_shape he
    obtain ⟨x, ds', ed, _, hx, hds⟩ := formed_shape hd
    injection ed with ed
    injection ed with e1 e2
    subst e1 e2
    rw [dataLt_tuple, dataLt_cons (by simp [alike])]
    simp only [PyData.eqv, beq_iff_eq]
    by_cases exy : x = y
    · subst exy
      rw [if_pos rfl]
      have lenE : ds.length = es.length := F (x, ds.length) (List.mem_append_left _ (by simp [rowsD, headD])) (x, es.length) (List.mem_append_right _ (by simp [rowsD, headD])) rfl
      have ned : ds ≠ es := fun z => ne (by rw [z])
      have FA : Func (rowsAll ds ++ rowsAll es) := F.sub fun p hp => by
        rcases List.mem_append.mp hp with h | h
        · exact List.mem_append_left _ (by rw [rowsD]; exact List.mem_cons_of_mem _ h)
        · exact List.mem_append_right _ (by rw [rowsD]; exact List.mem_cons_of_mem _ h)
      show ((x.cps.toList ++ txA ds) ++ u < (x.cps.toList ++ txA es) ++ v ↔ _)
      rw [List.append_assoc, List.append_assoc, pre_ord]
      exact txA_ord ds es hds hes lenE FA ned u v hu hv
    · rw [if_neg exy, dataLt_str, decide_eq_true_iff]
      show ((x.cps.toList ++ txA ds) ++ u < (y.cps.toList ++ txA es) ++ v ↔ _)
      rw [List.append_assoc, List.append_assoc]
      have tl : ∀ (l : List PyData) (w : List Nat), TailOk w → TailOk (txA l ++ w) := fun l w hw => by
        cases l with
        | nil => exact hw
        | cons _ _ => show 40 < 97; decide
      exact nm_ord _ _ (letters hx) (letters hy) (fun z => exy (str_of_cps z)) _ _ (tl ds u hu) (tl es v hv)
  | .tuple [], _, hd, _, _, _, _, _, _, _ => by cases hd
  | .none, _, hd, _, _, _, _, _, _, _ => by cases hd
  | .bool _, _, hd, _, _, _, _, _, _, _ => by cases hd
  | .int _, _, hd, _, _, _, _, _, _, _ => by cases hd
  | .str _, _, hd, _, _, _, _, _, _, _ => by cases hd
  | .list _, _, hd, _, _, _, _, _, _, _ => by cases hd
  | .dict _, _, hd, _, _, _, _, _, _, _ => by cases hd
theorem txA_ord : ∀ (ds es : List PyData), formedAll ds = true → formedAll es = true → ds.length = es.length → Func (rowsAll ds ++ rowsAll es) → ds ≠ es → ∀ u v, TailOk u → TailOk v → (txA ds ++ u < txA es ++ v ↔ PyProof.Rows.lexLt itemOrd (keyToksAll ds) (keyToksAll es) = true)
  | [], [], _, _, _, _, ne, _, _, _, _ => absurd rfl ne
  | [], _ :: _, _, _, h, _, _, _, _, _, _ => by cases h
  | _ :: _, [], _, _, h, _, _, _, _, _, _ => by cases h
  | d :: ds, e :: es, hd, he, len, F, ne, u, v, hu, hv => by
    rw [formedAll, Bool.and_eq_true] at hd he
    have F1 : Func (rowsD d ++ rowsD e) := F.sub fun p hp => by
      rcases List.mem_append.mp hp with h | h
      · exact List.mem_append_left _ (by rw [rowsAll]; exact List.mem_append_left _ h)
      · exact List.mem_append_right _ (by rw [rowsAll]; exact List.mem_append_left _ h)
    have F2 : Func (rowsAll ds ++ rowsAll es) := F.sub fun p hp => by
      rcases List.mem_append.mp hp with h | h
      · exact List.mem_append_left _ (by rw [rowsAll]; exact List.mem_append_right _ h)
      · exact List.mem_append_right _ (by rw [rowsAll]; exact List.mem_append_right _ h)
    have len2 : ds.length = es.length := by simpa using len
    rw [dataLt_cons (alike_formed d e hd.1 he.1)]
    show (40 :: ((tx d ++ (txM ds ++ [41])) ++ u) < 40 :: ((tx e ++ (txM es ++ [41])) ++ v) ↔ _)
    rw [List.cons_lt_cons_iff]
    have e40 : ∀ p : Prop, ((40 : Nat) < 40 ∨ 40 = 40 ∧ p) ↔ p := fun p => by simp
    rw [e40]
    simp only [List.append_assoc]
    by_cases ede : d = e
    · subst ede
      rw [if_pos ((eqv_formed d d hd.1 hd.1).mpr rfl), pre_ord]
      exact txM_ord ds es hd.2 he.2 len2 F2 (fun z => ne (by rw [z])) _ _ (show 41 < 97 by decide) (show 41 < 97 by decide)
    · rw [if_neg (fun z => ede ((eqv_formed d e hd.1 he.1).mp z))]
      have tl : ∀ (l : List PyData) (w : List Nat), TailOk (txM l ++ (41 :: w)) := fun l w => by
        cases l with
        | nil => show 41 < 97; decide
        | cons _ _ => show 44 < 97; decide
      exact tx_ord d e hd.1 he.1 F1 ede _ _ (tl ds u) (tl es v)
theorem txM_ord : ∀ (ds es : List PyData), formedAll ds = true → formedAll es = true → ds.length = es.length → Func (rowsAll ds ++ rowsAll es) → ds ≠ es → ∀ u v, TailOk u → TailOk v → (txM ds ++ u < txM es ++ v ↔ PyProof.Rows.lexLt itemOrd (keyToksAll ds) (keyToksAll es) = true)
  | [], [], _, _, _, _, ne, _, _, _, _ => absurd rfl ne
  | [], _ :: _, _, _, h, _, _, _, _, _, _ => by cases h
  | _ :: _, [], _, _, h, _, _, _, _, _, _ => by cases h
  | d :: ds, e :: es, hd, he, len, F, ne, u, v, hu, hv => by
    rw [formedAll, Bool.and_eq_true] at hd he
    have F1 : Func (rowsD d ++ rowsD e) := F.sub fun p hp => by
      rcases List.mem_append.mp hp with h | h
      · exact List.mem_append_left _ (by rw [rowsAll]; exact List.mem_append_left _ h)
      · exact List.mem_append_right _ (by rw [rowsAll]; exact List.mem_append_left _ h)
    have F2 : Func (rowsAll ds ++ rowsAll es) := F.sub fun p hp => by
      rcases List.mem_append.mp hp with h | h
      · exact List.mem_append_left _ (by rw [rowsAll]; exact List.mem_append_right _ h)
      · exact List.mem_append_right _ (by rw [rowsAll]; exact List.mem_append_right _ h)
    have len2 : ds.length = es.length := by simpa using len
    rw [dataLt_cons (alike_formed d e hd.1 he.1)]
    show (44 :: ((tx d ++ txM ds) ++ u) < 44 :: ((tx e ++ txM es) ++ v) ↔ _)
    rw [List.cons_lt_cons_iff]
    have e40 : ∀ p : Prop, ((44 : Nat) < 44 ∨ 44 = 44 ∧ p) ↔ p := fun p => by simp
    rw [e40]
    simp only [List.append_assoc]
    by_cases ede : d = e
    · subst ede
      rw [if_pos ((eqv_formed d d hd.1 hd.1).mpr rfl), pre_ord]
      exact txM_ord ds es hd.2 he.2 len2 F2 (fun z => ne (by rw [z])) u v hu hv
    · rw [if_neg (fun z => ede ((eqv_formed d e hd.1 he.1).mp z))]
      have tl : ∀ (l : List PyData) (w : List Nat), TailOk w → TailOk (txM l ++ w) := fun l w hw => by
        cases l with
        | nil => exact hw
        | cons _ _ => show 44 < 97; decide
      exact tx_ord d e hd.1 he.1 F1 ede _ _ (tl ds u hu) (tl es v hv)
end
/-- THE ORDER -/
theorem tx_lt {d e : PyData} (hd : formedD d = true) (he : formedD e = true) (F : Func (rowsD d ++ rowsD e)) : tx d < tx e ↔ ltR d e := by
  by_cases h : d = e
  · subst h
    exact iff_of_false (List.lt_irrefl _) (ltR_irrefl d)
  · have := tx_ord d e hd he F h [] [] trivial trivial
    rwa [List.append_nil, List.append_nil] at this
theorem keyToks_formed {d e : PyData} (hd : formedD d = true) (he : formedD e = true) (h : keyToks d = keyToks e) : d = e := by
  have al := alike_formed d e hd he
  cases q : PyData.eqv d e with
  | true => exact (eqv_formed d e hd he).mp q
  | false =>
    have z := (toks_eqv d e al).2 q [] [.inl 0]
    rw [h, List.append_nil] at z
    have z1 : PyProof.Rows.lexLt itemOrd (keyToks e) (keyToks e) = false := lex_irrefl _
    have z2 := lex_pre (keyToks e) [] [.inl 0]
    rw [List.append_nil, z, z1] at z2
    exact absurd z2 (by decide)
theorem Func.swap {a b : List NK} (F : Func (a ++ b)) : Func (b ++ a) := F.sub fun p hp => by
  rcases List.mem_append.mp hp with h | h
  · exact List.mem_append_right _ h
  · exact List.mem_append_left _ h
theorem tx_inj {d e : PyData} (hd : formedD d = true) (he : formedD e = true) (F : Func (rowsD d ++ rowsD e)) (h : tx d = tx e) : d = e := by
  have n1 : ¬ ltR d e := fun z => List.lt_irrefl _ (h ▸ (tx_lt hd he F).mpr z)
  have n2 : ¬ ltR e d := fun z => List.lt_irrefl _ (h ▸ (tx_lt he hd F.swap).mpr z)
  refine keyToks_formed hd he (lex_total (O := itemOrd) (keyToks d) (keyToks e) ?_ ?_)
  · exact Bool.eq_false_iff.mpr n1
  · exact Bool.eq_false_iff.mpr n2
theorem ltR_tri {d e : PyData} (hd : formedD d = true) (he : formedD e = true) : ltR d e ∨ d = e ∨ ltR e d := by
  cases h1 : dataLt d e with
  | true => exact .inl h1
  | false =>
    cases h2 : dataLt e d with
    | true => exact .inr (.inr h2)
    | false => exact .inr (.inl (keyToks_formed hd he (lex_total (O := itemOrd) (keyToks d) (keyToks e) h1 h2)))
end K13
/-! What stands in a dict behind d[k] = v. -/
namespace Kx
open PySem PySem.Spec PyProof.Rows L2
section
variable {κ : Type} [DecidableEq κ] {kvs : List (κ × V)} {k : κ} {v : V}
theorem any_key : (kvs.any fun kv => decide (kv.1 = k)) = true ↔ k ∈ kvs.map Prod.fst := by
  rw [List.any_eq_true, List.mem_map]
  exact ⟨fun ⟨p, hp, e⟩ => ⟨p, hp, of_decide_eq_true e⟩, fun ⟨p, hp, e⟩ => ⟨p, hp, decide_eq_true e⟩⟩
theorem fst_put_in (h : k ∈ kvs.map Prod.fst) : (putK kvs k v).map Prod.fst = kvs.map Prod.fst := by
  unfold putK
  rw [if_pos (any_key.mpr h), List.map_map]
  refine List.map_congr_left fun p _ => ?_
  show (if p.1 = k then (p.1, v) else p).1 = p.1
  split <;> rfl
theorem fst_put_new (h : k ∉ kvs.map Prod.fst) : (putK kvs k v).map Prod.fst = kvs.map Prod.fst ++ [k] := by
  unfold putK
  rw [if_neg (fun z => h (any_key.mp z)), List.map_append]
  rfl
theorem nodup_put (nd : (kvs.map Prod.fst).Nodup) : ((putK kvs k v).map Prod.fst).Nodup := by
  by_cases h : k ∈ kvs.map Prod.fst
  · rw [fst_put_in h]
    exact nd
  · rw [fst_put_new h, List.nodup_append]
    exact ⟨nd, by simp, fun a ha b hb => by rw [List.mem_singleton.mp hb]; intro e; exact h (e ▸ ha)⟩
theorem mem_fst_put {x : κ} : x ∈ (putK kvs k v).map Prod.fst ↔ x ∈ kvs.map Prod.fst ∨ x = k := by
  by_cases h : k ∈ kvs.map Prod.fst
  · rw [fst_put_in h]
    exact ⟨.inl, fun z => z.elim id fun e => e ▸ h⟩
  · rw [fst_put_new h, List.mem_append, List.mem_singleton]
theorem mem_put {p : κ × V} (h : p ∈ putK kvs k v) : p = (k, v) ∨ (p ∈ kvs ∧ p.1 ≠ k) := by
  unfold putK at h
  split at h
  · obtain ⟨q, hq, rfl⟩ := List.mem_map.mp h
    by_cases e : q.1 = k
    · rw [if_pos e, e]
      exact .inl rfl
    · rw [if_neg e]
      exact .inr ⟨hq, e⟩
  · rename_i n
    rcases List.mem_append.mp h with h | h
    · exact .inr ⟨h, fun e => n (any_key.mpr (List.mem_map.mpr ⟨p, h, e⟩))⟩
    · exact .inl (List.mem_singleton.mp h)
theorem mem_of_val : ∀ {kvs : List (κ × V)}, valV kvs k = some v → (k, v) ∈ kvs
  | [], h => by simp [valV_nil] at h
  | p :: kvs, h => by
    by_cases e : p.1 = k
    · rw [valV_pos e] at h
      obtain ⟨a, b⟩ := p
      cases h
      cases e
      exact List.mem_cons_self
    · rw [valV_neg e] at h
      exact List.mem_cons_of_mem _ (mem_of_val h)
theorem val_of_mem : ∀ {kvs : List (κ × V)}, (kvs.map Prod.fst).Nodup → (k, v) ∈ kvs → valV kvs k = some v
  | p :: kvs, nd, h => by
    rw [List.map_cons, List.nodup_cons] at nd
    rcases List.mem_cons.mp h with e | h
    · subst e
      exact valV_pos rfl
    · have ne : p.1 ≠ k := fun z => nd.1 (by rw [z]; exact List.mem_map.mpr ⟨_, h, rfl⟩)
      rw [valV_neg ne]
      exact val_of_mem nd.2 h
end
end Kx
/-! pairs_of: how many stay. -/
namespace K13
open PySem PySem.Spec PyProof.Rows L2 Kx
section
variable {P : Program} {w : World} {K : PySem.W.Frag} {mg : Str → Option Value} {base : Heap}
/-- both sides have one text -/
def eqC : PyData → Prop
  | .tuple [a, b] => tx a = tx b
  | _ => True
theorem tx_tri {l m : List Nat} (h1 : ¬ l < m) (h2 : ¬ m < l) : l = m := by
  exact List.le_antisymm (List.not_lt.mp h2) (List.not_lt.mp h1)
theorem Sq.up {H H' : Hp} {a : Addr} {xs : List V} (s : Same H H') (h : Sq K H a xs) : Sq K H' a xs := h.elim (fun h => .inl (s.seq h)) fun h => .inr (Same.tup s h)
theorem put_ne {kvs : List (List Key × V)} {k : List Key} {v : V} : putK kvs k v ≠ [] := by
  unfold putK
  split
  · rename_i h
    intro z
    rw [List.map_eq_nil_iff.mp z] at h
    cases h
  · simp
theorem put_keys {kvs : List (List Key × V)} {k : List Key} {v : V} (p : List Key × V) (hp : p ∈ putK kvs k v) : p.1 = k ∨ ∃ q, q ∈ kvs ∧ q.1 = p.1 := by
  unfold putK at hp
  split at hp
  · obtain ⟨q, hq, rfl⟩ := List.mem_map.mp hp
    refine .inr ⟨q, hq, ?_⟩
    split <;> rfl
  · rcases List.mem_append.mp hp with h | h
    · exact .inr ⟨p, h, rfl⟩
    · rw [List.mem_singleton.mp h]
      exact .inl rfl
def PoKeys (kvs : List (List Key × V)) : Prop := ∀ p, p ∈ kvs → ∃ x y : Str, p.1 = [Sum.inr x, Sum.inr y]
theorem po_put {kvs : List (List Key × V)} {x y : Str} {v : V} (h : PoKeys kvs) : PoKeys (putK kvs [Sum.inr x, Sum.inr y] v) := fun p hp => by
  rcases put_keys p hp with e | ⟨q, hq, e⟩
  · exact ⟨x, y, e⟩
  · rw [← e]
    exact h q hq
theorem val_mem {k : List Key} : ∀ {kvs : List (List Key × V)}, k ∈ kvs.map Prod.fst → ∃ v, valV kvs k = some v
  | p :: l, h => by
    by_cases e : p.1 = k
    · exact ⟨p.2, valV_pos e⟩
    · rw [List.map_cons, List.mem_cons] at h
      rcases h with h | h
      · exact absurd h.symm e
      · rw [valV_neg e]
        exact val_mem h
def ForR (J : It) (g : TG) (tb : TS) (D : L2.Ends) (σ : L2.St) (H : Hp) : Prop := ∃ W : Nat → Nat → L2.St → Hp → Prop, (∃ m, W 0 m σ H) ∧ ∀ i m σ H, W i m σ H →
  (J.stop i H ∧ D.nx σ H) ∨ (J.go i H ∧ ∃ N : L2.St → Hp → Prop, (∀ σ' H', N σ' H' → ∃ m', m' < m ∧ W (i + 1) m' σ' H') ∧ ∀ x H', J.yld i H x H' → g x σ H' fun σ2 H2 => tb { D with nx := N, ct := N, bk := D.nx } σ2 H2)
theorem for_seq {a : Addr} {xs : List V} {g : TG} {tb : TS} {D : L2.Ends} {σ : L2.St} {H H0 : Hp} (h : Sq K H0 a xs) (s0 : Same H0 H) (Pv : Nat → L2.St → Hp → Prop) (h0 : Pv 0 σ H) (hl : ∀ i σ G, i ≤ xs.length → Pv i σ G → Same H0 G)
    (hs : ∀ i x σ H, xs[i]? = some x → Pv i σ H → g x σ H fun σ2 H2 => tb { D with nx := Pv (i + 1), ct := Pv (i + 1), bk := D.nx } σ2 H2) (hd : ∀ σ H, Pv xs.length σ H → D.nx σ H) :
    ((∃ xs, SqL K H a xs) ∧ ForR (Itl K a) g tb D σ H) ∨ ((∃ xs, SqT K H a xs) ∧ ForR (Itt K a) g tb D σ H) := by
  rcases h with h | h
  · exact .inl ⟨⟨xs, s0.seq h⟩, for_list Pv h0 (fun i σ G hi p => (hl i σ G hi p).seq h) hs hd⟩
  · exact .inr ⟨⟨xs, Same.tup s0 h⟩, for_tup Pv h0 (fun i σ G hi p => Same.tup (hl i σ G hi p) h) hs hd⟩
/-- a pair of ds, turned so that the lesser text comes first -/
def Nz (ds : List PyData) (a b : PyData) : Prop := tx a < tx b ∧ (PyData.tuple [a, b] ∈ ds ∨ PyData.tuple [b, a] ∈ ds)
structure Prs (ds L : List PyData) : Prop where
  mem : ∀ z, z ∈ L ↔ ∃ a b, z = .tuple [a, b] ∧ Nz ds a b
  srt : L.Pairwise ltR
def Cpl (d : PyData) : Prop := ∃ a b, d = .tuple [a, b] ∧ Wr a ∧ Wr b
def keyP (a b : PyData) : List Key := [Sum.inr (tS (tx a)), Sum.inr (tS (tx b))]
def keyL : PyData → List Key
  | .tuple [a, b] => keyP a b
  | _ => []
theorem tS_inj {l m : List Nat} (h : tS l = tS m) : l = m := by
  have := congrArg (fun x : Str => x.cps.toList) h
  simpa [tS] using this
theorem keyP_inj {a b c d : PyData} (h : keyP a b = keyP c d) : tx a = tx c ∧ tx b = tx d := by
  unfold keyP at h
  simp only [List.cons.injEq, and_true, Sum.inr.injEq] at h
  exact ⟨tS_inj h.1, tS_inj h.2⟩
/-- all terms of ds formed, each name with one number of places -/
structure Cns (ds : List PyData) : Prop where
  c : ∀ d, d ∈ ds → Cpl d
  f : Func (rowsAll (sidesD ds))
theorem rows_side {ds : List PyData} : ∀ {x : PyData}, x ∈ ds → ∀ p, p ∈ rowsD x → p ∈ rowsAll ds := fun {x} hx p hp => by
  induction ds with
  | nil => cases hx
  | cons d ds ih =>
    rw [rowsAll]
    rcases List.mem_cons.mp hx with rfl | h
    · exact List.mem_append_left _ hp
    · exact List.mem_append_right _ (ih h)
theorem Cns.side {ds : List PyData} (C : Cns ds) {a b : PyData} (h : PyData.tuple [a, b] ∈ ds ∨ PyData.tuple [b, a] ∈ ds) : (formedD a = true ∧ formedD b = true) ∧ a ∈ sidesD ds ∧ b ∈ sidesD ds := by
  rcases h with h | h
  · obtain ⟨a', b', e, wa, wb⟩ := C.c _ h
    simp only [PyData.tuple.injEq, List.cons.injEq, and_true] at e
    obtain ⟨rfl, rfl⟩ := e
    exact ⟨⟨wa.f, wb.f⟩, List.mem_flatMap.mpr ⟨_, h, by simp [sidesOf]⟩, List.mem_flatMap.mpr ⟨_, h, by simp [sidesOf]⟩⟩
  · obtain ⟨b', a', e, wb, wa⟩ := C.c _ h
    simp only [PyData.tuple.injEq, List.cons.injEq, and_true] at e
    obtain ⟨rfl, rfl⟩ := e
    exact ⟨⟨wa.f, wb.f⟩, List.mem_flatMap.mpr ⟨_, h, by simp [sidesOf]⟩, List.mem_flatMap.mpr ⟨_, h, by simp [sidesOf]⟩⟩
theorem Cns.two {ds : List PyData} (C : Cns ds) {x y : PyData} (hx : x ∈ sidesD ds) (hy : y ∈ sidesD ds) : Func (rowsD x ++ rowsD y) := C.f.sub fun p hp => by
  rcases List.mem_append.mp hp with h | h
  · exact rows_side hx p h
  · exact rows_side hy p h
theorem nz_mono {l m : List PyData} (s : ∀ z, z ∈ l → z ∈ m) {a b : PyData} (h : Nz l a b) : Nz m a b := ⟨h.1, h.2.imp (s _) (s _)⟩
theorem nz_inj {ds : List PyData} (C : Cns ds) {a b c d : PyData} (h1 : Nz ds a b) (h2 : Nz ds c d) (e : keyP a b = keyP c d) : a = c ∧ b = d := by
  obtain ⟨e1, e2⟩ := keyP_inj e
  obtain ⟨⟨fa, fb⟩, ma, mb⟩ := C.side h1.2
  obtain ⟨⟨fc, fd⟩, mc, md⟩ := C.side h2.2
  exact ⟨tx_inj fa fc (C.two ma mc) e1, tx_inj fb fd (C.two mb md) e2⟩
theorem lt_str_key {x y : List Nat} : PySem.W.dataLt (.str (tS x)) (.str (tS y)) = decide (x < y) := by
  rw [PySem.W.dataLt_str]
  refine decide_eq_decide.mpr ?_
  simp [tS]
/-- keys in the order of their pairs -/
theorem key_lt {ds : List PyData} (C : Cns ds) {a b c d : PyData} (h1 : Nz ds a b) (h2 : Nz ds c d) : ltR (tupD (keyP a b)) (tupD (keyP c d)) ↔ ltR (.tuple [a, b]) (.tuple [c, d]) := by
  obtain ⟨⟨fa, fb⟩, ma, mb⟩ := C.side h1.2
  obtain ⟨⟨fc, fd⟩, mc, md⟩ := C.side h2.2
  unfold ltR
  rw [show tupD (keyP a b) = .tuple [.str (tS (tx a)), .str (tS (tx b))] from rfl, show tupD (keyP c d) = .tuple [.str (tS (tx c)), .str (tS (tx d))] from rfl]
  rw [PySem.W.dataLt_pair (by simp [PySem.W.alike]) (by simp [PySem.W.alike]), PySem.W.dataLt_pair (alike_formed a c fa fc) (alike_formed b d fb fd)]
  have q1 : (PyData.eqv (.str (tS (tx a))) (.str (tS (tx c))) = true) ↔ (PyData.eqv a c = true) := by
    rw [PyData.eqv, beq_iff_eq, eqv_formed a c fa fc]
    exact ⟨fun e => tx_inj fa fc (C.two ma mc) (tS_inj e), fun e => by rw [e]⟩
  have q2 : (PyData.eqv (.str (tS (tx b))) (.str (tS (tx d))) = true) ↔ (PyData.eqv b d = true) := by
    rw [PyData.eqv, beq_iff_eq, eqv_formed b d fb fd]
    exact ⟨fun e => tx_inj fb fd (C.two mb md) (tS_inj e), fun e => by rw [e]⟩
  rw [lt_str_key, lt_str_key]
  have l1 := tx_lt fa fc (C.two ma mc)
  have l2 := tx_lt fb fd (C.two mb md)
  unfold ltR at l1 l2
  by_cases h1 : PyData.eqv a c = true
  · rw [if_pos h1, if_pos (q1.mpr h1)]
    by_cases h2 : PyData.eqv b d = true
    · rw [if_pos h2, if_pos (q2.mpr h2)]
    · rw [if_neg h2, if_neg (fun z => h2 (q2.mp z)), decide_eq_true_iff]
      exact l2
  · rw [if_neg h1, if_neg (fun z => h1 (q1.mp z)), decide_eq_true_iff]
    exact l1
/-- the dict of pairs behind some couples -/
structure PoD (K : PySem.W.Frag) (G : Hp) (ds : List PyData) (kvs : List (List Key × V)) : Prop where
  nd : (kvs.map Prod.fst).Nodup
  at_ : ∀ p, p ∈ kvs → ∃ a b, p.1 = keyP a b ∧ Dx K G p.2 (.tuple [a, b]) ∧ Nz ds a b
  all : ∀ a b, Nz ds a b → keyP a b ∈ kvs.map Prod.fst
theorem pure_two {a b : PyData} (fa : formedD a = true) (fb : formedD b = true) : pureD (.tuple [a, b]) = true := by
  simp [pureD, pureAll, pure_formed _ fa, pure_formed _ fb]
theorem PoD.put {K : PySem.W.Frag} {G G' : Hp} {ds : List PyData} {z : PyData} {kvs : List (List Key × V)} {a b : PyData} {v : V} (h : PoD K G ds kvs) (C : Cns ds) (t : Tups G G') (dv : Dx K G' v (.tuple [a, b])) (nz : Nz (ds ++ [z]) a b) (ez : z = .tuple [a, b] ∨ z = .tuple [b, a]) : PoD K G' (ds ++ [z]) (putK kvs (keyP a b) v) := by
  refine ⟨nodup_put h.nd, fun p hp => ?_, fun c d hcd => ?_⟩
  · rcases mem_put hp with rfl | ⟨hp, _⟩
    · exact ⟨a, b, rfl, dv, nz⟩
    · obtain ⟨c, d, e, dp, n⟩ := h.at_ p hp
      obtain ⟨⟨fc, fd⟩, _⟩ := C.side n.2
      exact ⟨c, d, e, Dx.ts t _ _ (pure_two fc fd) dp, nz_mono (fun _ hz => List.mem_append_left _ hz) n⟩
  · rw [mem_fst_put]
    have key : ∀ x y : PyData, PyData.tuple [x, y] = z → (tx x = tx a ∧ tx y = tx b) ∨ (tx x = tx b ∧ tx y = tx a) := fun x y e => by
      rcases ez with rfl | rfl
      · simp only [PyData.tuple.injEq, List.cons.injEq, and_true] at e
        obtain ⟨rfl, rfl⟩ := e
        exact .inl ⟨rfl, rfl⟩
      · simp only [PyData.tuple.injEq, List.cons.injEq, and_true] at e
        obtain ⟨rfl, rfl⟩ := e
        exact .inr ⟨rfl, rfl⟩
    have fin : ∀ x y : PyData, tx x < tx y → ((tx x = tx a ∧ tx y = tx b) ∨ (tx x = tx b ∧ tx y = tx a)) → keyP x y = keyP a b := fun x y l e => by
      rcases e with ⟨e1, e2⟩ | ⟨e1, e2⟩
      · unfold keyP
        rw [e1, e2]
      · rw [e1, e2] at l
        exact absurd (List.lt_trans l nz.1) (List.lt_irrefl _)
    rcases hcd.2 with m | m
    · rcases List.mem_append.mp m with m | m
      · exact .inl (h.all c d ⟨hcd.1, .inl m⟩)
      · exact .inr (fin c d hcd.1 (key c d (List.mem_singleton.mp m)))
    · rcases List.mem_append.mp m with m | m
      · exact .inl (h.all c d ⟨hcd.1, .inr m⟩)
      · exact .inr (fin c d hcd.1 ((key d c (List.mem_singleton.mp m)).symm.imp And.symm And.symm))
theorem PoD.skip {K : PySem.W.Frag} {G G' : Hp} {ds : List PyData} {kvs : List (List Key × V)} {a b : PyData} (h : PoD K G ds kvs) (C : Cns ds) (t : Tups G G') (e : tx a = tx b) : PoD K G' (ds ++ [.tuple [a, b]]) kvs := by
  refine ⟨h.nd, fun p hp => ?_, fun c d hcd => ?_⟩
  · obtain ⟨c, d, e, dp, n⟩ := h.at_ p hp
    obtain ⟨⟨fc, fd⟩, _⟩ := C.side n.2
    exact ⟨c, d, e, Dx.ts t _ _ (pure_two fc fd) dp, nz_mono (fun _ hz => List.mem_append_left _ hz) n⟩
  · have no : ∀ x y : PyData, PyData.tuple [x, y] = .tuple [a, b] → tx x = tx y := fun x y z => by
      simp only [PyData.tuple.injEq, List.cons.injEq, and_true] at z
      obtain ⟨rfl, rfl⟩ := z
      exact e
    rcases hcd.2 with m | m
    · rcases List.mem_append.mp m with m | m
      · exact h.all c d ⟨hcd.1, .inl m⟩
      · exact absurd hcd.1 (by rw [no c d (List.mem_singleton.mp m)]; exact List.lt_irrefl _)
    · rcases List.mem_append.mp m with m | m
      · exact h.all c d ⟨hcd.1, .inr m⟩
      · exact absurd hcd.1 (by rw [no d c (List.mem_singleton.mp m)]; exact List.lt_irrefl _)
theorem Cns.take {ds : List PyData} (C : Cns ds) (i : Nat) : Cns (ds.take i) := by
  refine ⟨fun d hd => C.c d (List.mem_of_mem_take hd), C.f.sub fun p hp => ?_⟩
  have : ∀ l : List PyData, p ∈ rowsAll l → ∃ x, x ∈ l ∧ p ∈ rowsD x := fun l => by
    induction l with
    | nil => intro h; cases h
    | cons d l ih =>
      intro h
      rw [rowsAll] at h
      rcases List.mem_append.mp h with h | h
      · exact ⟨d, List.mem_cons_self, h⟩
      · obtain ⟨x, hx, h⟩ := ih h
        exact ⟨x, List.mem_cons_of_mem _ hx, h⟩
  obtain ⟨x, hx, hp⟩ := this _ hp
  obtain ⟨d, hd, hx⟩ := List.mem_flatMap.mp hx
  exact rows_side (List.mem_flatMap.mpr ⟨d, List.mem_of_mem_take hd, hx⟩) p hp
end
end K13
/-! fact_of, and what the functions of facts raise. -/
namespace K13
open PySem PySem.Spec PyProof.Rows L2 Kx
section
variable {P : Program} {w : World} {K : PySem.W.Frag} {mg : Str → Option Value} {base : Heap}
theorem Cns.sub {ds es : List PyData} (C : Cns ds) (s : ∀ d, d ∈ es → d ∈ ds) : Cns es := by
  refine ⟨fun d hd => C.c d (s d hd), C.f.sub fun p hp => ?_⟩
  have : ∀ l : List PyData, p ∈ rowsAll l → ∃ x, x ∈ l ∧ p ∈ rowsD x := fun l => by
    induction l with
    | nil => intro h; cases h
    | cons d l ih =>
      intro h
      rw [rowsAll] at h
      rcases List.mem_append.mp h with h | h
      · exact ⟨d, List.mem_cons_self, h⟩
      · obtain ⟨x, hx, h⟩ := ih h
        exact ⟨x, List.mem_cons_of_mem _ hx, h⟩
  obtain ⟨x, hx, hp⟩ := this _ hp
  obtain ⟨d, hd, hx⟩ := List.mem_flatMap.mp hx
  exact rows_side (List.mem_flatMap.mpr ⟨d, s d hd, hx⟩) p hp
theorem Prs.uniq {ds es L M : List PyData} (h : Prs ds L) (h2 : Prs es M) (e : ∀ a b, Nz ds a b ↔ Nz es a b) : L = M := uniq_data h.srt h2.srt fun x => by
  rw [h.mem, h2.mem]
  exact exists_congr fun a => exists_congr fun b => by rw [e]
/-- what fact_of makes -/
def FoD (ds : List PyData) (e r : PyData) : Prop := ∃ L, Prs ds L ∧ ((e = .none ∧ r = .tuple [.tuple L, .none]) ∨ ∃ a b, e = .tuple [a, b] ∧ ((tx a = tx b ∧ r = .none) ∨ (tx a < tx b ∧ r = .tuple [.tuple L, .tuple [a, b]]) ∨ (tx b < tx a ∧ r = .tuple [.tuple L, .tuple [b, a]])))
theorem FoD.uniq {ds es : List PyData} {e r r' : PyData} (h : FoD ds e r) (h2 : FoD es e r') (q : ∀ a b, Nz ds a b ↔ Nz es a b) : r = r' := by
  obtain ⟨L, p, h⟩ := h
  obtain ⟨M, p2, h2⟩ := h2
  have el := p.uniq p2 q
  subst el
  rcases h with ⟨e1, e2⟩ | ⟨a, b, e1, h⟩
  · rcases h2 with ⟨_, e4⟩ | ⟨c, d, e3, _⟩
    · rw [e2, e4]
    · rw [e1] at e3; cases e3
  · rcases h2 with ⟨e3, _⟩ | ⟨c, d, e3, h2⟩
    · rw [e1] at e3; cases e3
    · rw [e1] at e3
      simp only [PyData.tuple.injEq, List.cons.injEq, and_true] at e3
      obtain ⟨rfl, rfl⟩ := e3
      rcases h with ⟨l, h⟩ | ⟨l, h⟩ | ⟨l, h⟩ <;> rcases h2 with ⟨m, h2⟩ | ⟨m, h2⟩ | ⟨m, h2⟩
      · rw [h, h2]
      · rw [l] at m; exact absurd m (List.lt_irrefl _)
      · rw [l] at m; exact absurd m (List.lt_irrefl _)
      · rw [m] at l; exact absurd l (List.lt_irrefl _)
      · rw [h, h2]
      · exact absurd (List.lt_trans l m) (List.lt_irrefl _)
      · rw [m] at l; exact absurd l (List.lt_irrefl _)
      · exact absurd (List.lt_trans l m) (List.lt_irrefl _)
      · rw [h, h2]
end
end K13
/-! Facts in parts. -/
namespace K13
open PySem PySem.Spec PyProof.Rows L2 Kx
section
variable {P : Program} {w : World} {K : PySem.W.Frag} {mg : Str → Option Value} {base : Heap}
/-- all pairs of a fact -/
def prsD : PyData → List PyData
  | .tuple [.tuple ps, e] => ps ++ endOf e
  | _ => []
/-- a fact's parts -/
theorem fact_shape {d : PyData} (h : factD d = true) : ∃ ps e, d = .tuple [.tuple ps, e] ∧ couplesD (ps ++ endOf e) = true := by
  match d, h with
  | .tuple [a, e], h =>
    match a, h with
    | .tuple ps, h =>
      have h : (couplesD (ps ++ endOf e) && ((ps ++ endOf e).all ordC && chainD (ps.map keyC))) = true := h
      rw [Bool.and_eq_true] at h
      exact ⟨ps, e, rfl, h.1⟩
theorem dx_fact {H : Hp} {x : V} {ps : List PyData} {e : PyData} (h : Dx K H x (.tuple [.tuple ps, e])) : ∃ (f t : Addr) (us : List V) (v : V), x = .ref f ∧ H f = some (.tup [.ref t, v]) ∧ H t = some (.tup us) ∧ DxAll K H us ps ∧ Dx K H v e := by
  obtain ⟨f, u, v, rfl, hf, hu, hv⟩ := dx_couple h
  cases hu with
  | @tup t us _ ht hus => exact ⟨f, t, us, v, rfl, hf, ht, hus, hv⟩
theorem fz_parts {H : Hp} {x : V} {ps : List PyData} {e : PyData} (h : Fz K H x (.tuple [.tuple ps, e])) : ps.length ≤ 100 ∧ (ps ++ endOf e).length ≤ 101 ∧ shortAll (ps ++ endOf e) = true ∧ szAll (ps ++ endOf e) ≤ 10000 := by
  have fps := h.few ps e rfl
  have sh2 : shortAll ps = true ∧ shortD e = true := by
    have : shortAll [.tuple ps, e] = true := h.sh
    simpa [shortAll, shortD] using this
  have sz := h.sz
  have l1 : (endOf e).length ≤ 1 := by cases e <;> simp [endOf]
  have z1 : szAll (endOf e) ≤ szD e := by cases e <;> simp [endOf, szAll, szD]
  refine ⟨fps, by rw [List.length_append]; omega, ?_, ?_⟩
  · rw [shortAll_append, sh2.1, Bool.true_and]
    have := sh2.2
    cases e <;> simp_all [endOf, shortAll]
  · rw [szAll_append]
    simp only [szD, szAll] at sz
    omega
theorem noB {b : Bool} {p : Prop} (h : b = false) : b = true → p := fun z => by rw [h] at z; cases z
theorem couples_cns {ds : List PyData} (h : couplesD ds = true) (z : szAll ds ≤ 10000) : Cns ds := by
  refine ⟨couples_wr h z, ?_⟩
  simp only [couplesD, jointD, Bool.and_eq_true, decide_eq_true_eq] at h
  exact h.2.2
end
theorem pure_cpl : ∀ {l : List PyData}, (∀ d, d ∈ l → Cpl d) → pureAll l = true
  | [], _ => rfl
  | d :: l, h => by
    obtain ⟨a, b, rfl, wa, wb⟩ := h d List.mem_cons_self
    rw [pureAll, pure_cpl fun d hd => h d (List.mem_cons_of_mem _ hd)]
    simp [pureD, pureAll, pure_formed _ wa.f, pure_formed _ wb.f]
theorem nodup_len {α : Type} : ∀ {l m : List α}, l.Nodup → (∀ x, x ∈ l → x ∈ m) → l.length ≤ m.length
  | [], _, _, _ => Nat.zero_le _
  | x :: l, m, nd, h => by
    haveI : DecidableEq α := fun a b => Classical.propDecidable (a = b)
    rw [List.nodup_cons] at nd
    have mx := h x List.mem_cons_self
    have ih := nodup_len (l := l) (m := m.erase x) nd.2 fun y hy => (List.mem_erase_of_ne (fun (e : y = x) => nd.1 (e ▸ hy))).mpr (h y (List.mem_cons_of_mem _ hy))
    rw [List.length_erase_of_mem mx] at ih
    have : 0 < m.length := List.length_pos_of_mem mx
    rw [List.length_cons]
    omega
theorem rows_mem {p : NK} : ∀ {l : List PyData}, p ∈ rowsAll l → ∃ x, x ∈ l ∧ p ∈ rowsD x
  | [], h => by cases h
  | d :: l, h => by
    rw [rowsAll] at h
    rcases List.mem_append.mp h with h | h
    · exact ⟨d, List.mem_cons_self, h⟩
    · obtain ⟨x, hx, h⟩ := rows_mem h
      exact ⟨x, List.mem_cons_of_mem _ hx, h⟩
theorem Cns.sides {ds es : List PyData} (C : Cns ds) (h : ∀ d, d ∈ es → Cpl d) (s : ∀ x, x ∈ sidesD es → x ∈ sidesD ds) : Cns es :=
  ⟨h, C.f.sub fun p hp => by
    obtain ⟨x, hx, hp⟩ := rows_mem hp
    exact rows_side (s x hx) p hp⟩
/-- the couple turned, or as it is -/
def normC : PyData → PyData
  | .tuple [a, b] => if tx a < tx b then .tuple [a, b] else .tuple [b, a]
  | d => d
theorem Prs.len {ds L : List PyData} (p : Prs ds L) : L.length ≤ ds.length := by
  have nd : L.Nodup := p.srt.imp (S := fun a b => a ≠ b) fun {x y} (h : ltR x y) (e : x = y) => ltR_irrefl y (e ▸ h)
  have := nodup_len (m := ds.map normC) nd fun z hz => by
    obtain ⟨a, b, rfl, l, m⟩ := (p.mem z).mp hz
    rcases m with m | m
    · exact List.mem_map.mpr ⟨_, m, by show (if tx a < tx b then _ else _) = _; rw [if_pos l]⟩
    · exact List.mem_map.mpr ⟨_, m, by show (if tx b < tx a then _ else _) = _; rw [if_neg fun z => List.lt_irrefl _ (List.lt_trans l z)]⟩
  rwa [List.length_map] at this
theorem Cns.cpl {ds : List PyData} (C : Cns ds) {a b : PyData} (h : PyData.tuple [a, b] ∈ ds ∨ PyData.tuple [b, a] ∈ ds) : Cpl (.tuple [a, b]) := by
  rcases h with h | h
  · exact C.c _ h
  · obtain ⟨b', a', e, wb, wa⟩ := C.c _ h
    simp only [PyData.tuple.injEq, List.cons.injEq, and_true] at e
    obtain ⟨rfl, rfl⟩ := e
    exact ⟨a, b, rfl, wa, wb⟩
/-- sorted pairs of ds beside some of ds -/
theorem Prs.cns {ds es L ms : List PyData} (C : Cns ds) (p : Prs es L) (sub : ∀ d, d ∈ es → d ∈ ds) (sm : ∀ d, d ∈ ms → d ∈ ds) : Cns (L ++ ms) := by
  refine C.sides (fun d hd => ?_) fun x hx => ?_
  · rcases List.mem_append.mp hd with hd | hd
    · obtain ⟨a, b, rfl, _, m⟩ := (p.mem d).mp hd
      exact C.cpl (m.imp (sub _) (sub _))
    · exact C.c d (sm d hd)
  · obtain ⟨d, hd, hx⟩ := List.mem_flatMap.mp hx
    rcases List.mem_append.mp hd with hd | hd
    · obtain ⟨a, b, rfl, _, m⟩ := (p.mem d).mp hd
      obtain ⟨_, ma, mb⟩ := C.side (m.imp (sub _) (sub _))
      simp only [sidesOf, List.mem_cons, List.not_mem_nil, or_false] at hx
      rcases hx with rfl | rfl
      · exact ma
      · exact mb
    · exact List.mem_flatMap.mpr ⟨d, sm d hd, hx⟩
end K13
/-! cut. -/
namespace K13
open PySem PySem.Spec PyProof.Rows L2 Kx
theorem letters_le {x : Str} (h : isNm x = true) : ∀ c, c ∈ x.cps.toList → c ≤ 122 := fun c hc => by
  simp only [isNm, Bool.and_eq_true, decide_eq_true_eq] at h
  have := (Array.all_eq_true'.mp h.2) c (Array.mem_toList_iff.mp hc)
  simp only [letter, Bool.and_eq_true, decide_eq_true_eq] at this
  exact this.2
mutual
theorem tx_small : ∀ (d : PyData), formedD d = true → ∀ c, c ∈ tx d → c ≤ 122
  | .tuple (a :: ds), hd, c, hc => by
    obtain ⟨x, ds', ed, _, hx, hds⟩ := formed_shape hd
    injection ed with ed
    injection ed with e1 e2
    subst e1 e2
    have hc : c ∈ x.cps.toList ++ txA ds := hc
    rcases List.mem_append.mp hc with h | h
    · exact letters_le hx c h
    · exact txA_small ds hds c h
  | .tuple [], hd, _, _ => by cases hd
  | .none, hd, _, _ => by cases hd
  | .bool _, hd, _, _ => by cases hd
  | .int _, hd, _, _ => by cases hd
  | .str _, hd, _, _ => by cases hd
  | .list _, hd, _, _ => by cases hd
  | .dict _, hd, _, _ => by cases hd
theorem txA_small : ∀ (ds : List PyData), formedAll ds = true → ∀ c, c ∈ txA ds → c ≤ 122
  | [], _, _, hc => by cases hc
  | d :: ds, h, c, hc => by
    rw [formedAll, Bool.and_eq_true] at h
    rw [txA] at hc
    rcases List.mem_cons.mp hc with rfl | hc
    · decide
    · rcases List.mem_append.mp hc with hc | hc
      · exact tx_small d h.1 c hc
      · rcases List.mem_append.mp hc with hc | hc
        · exact txM_small ds h.2 c hc
        · rw [List.mem_singleton.mp hc]
          decide
theorem txM_small : ∀ (ds : List PyData), formedAll ds = true → ∀ c, c ∈ txM ds → c ≤ 122
  | [], _, _, hc => by cases hc
  | d :: ds, h, c, hc => by
    rw [formedAll, Bool.and_eq_true] at h
    rw [txM] at hc
    rcases List.mem_cons.mp hc with rfl | hc
    · decide
    · rcases List.mem_append.mp hc with hc | hc
      · exact tx_small d h.1 c hc
      · exact txM_small ds h.2 c hc
end
theorem tx_ok {d : PyData} (h : formedD d = true) : PyData.strOk (tS (tx d)) = true := by
  refine Array.all_eq_true'.mpr fun c hc => ?_
  have := tx_small d h c (by simpa [tS] using hc)
  exact decide_eq_true (by omega)
theorem cpl_key {z : PyData} (h : Cpl z) : (keyC z).canLay0 = true ∧ (keyC z).depth ≤ 64 ∧ pureD (keyC z) = true ∧ (keyC z).hasDict = false := by
  obtain ⟨a, b, rfl, wa, wb⟩ := h
  refine ⟨by simp [keyC, PyData.canLay0, PyData.canLayAll0, tx_ok wa.f, tx_ok wb.f], by simp [keyC, PyData.depth, PyData.depthAll], rfl, rfl⟩
/-- keys are equal where the pairs are -/
theorem key_eqv {ds : List PyData} (C : Cns ds) {x y : PyData} (hx : x ∈ ds) (hy : y ∈ ds) : PyData.eqv (keyC x) (keyC y) = true ↔ x = y := by
  obtain ⟨a, b, rfl, wa, wb⟩ := C.c x hx
  obtain ⟨c, d, rfl, wc, wd⟩ := C.c y hy
  obtain ⟨_, ma, mb⟩ := C.side (.inl hx)
  obtain ⟨_, mc, md⟩ := C.side (.inl hy)
  simp only [keyC, PyData.eqv, PyData.eqvAll, Bool.and_true, Bool.and_eq_true, beq_iff_eq]
  constructor
  · rintro ⟨e1, e2⟩
    rw [tx_inj wa.f wc.f (C.two ma mc) (tS_inj e1), tx_inj wb.f wd.f (C.two mb md) (tS_inj e2)]
  · intro e
    simp only [PyData.tuple.injEq, List.cons.injEq, and_true] at e
    rw [e.1, e.2]
    exact ⟨rfl, rfl⟩
theorem eqv_cpl {x y : PyData} (hx : Cpl x) (hy : Cpl y) : PyData.eqv x y = true ↔ x = y := by
  obtain ⟨a, b, rfl, wa, wb⟩ := hx
  obtain ⟨c, d, rfl, wc, wd⟩ := hy
  simp only [PyData.eqv, PyData.eqvAll, Bool.and_true, Bool.and_eq_true, eqv_formed a c wa.f wc.f, eqv_formed b d wb.f wd.f, PyData.tuple.injEq, List.cons.injEq, and_true]
theorem room65 {k : Nat} {A : Around} (r : Room k A) : A.units + 65 < cLine := by
  have := room200 r
  omega
end K13
/-! Pairs of the law. -/
namespace K13
open PySem PySem.Spec PyProof.Rows L2 Kx
/-- a term with names of rs, of n levels at most -/
theorem Tm.le {rs : List NK} {n m : Nat} {d : PyData} (h : Tm rs n d) (l : n ≤ m) : Tm rs m d := ⟨h.fm, h.rw, Nat.le_trans h.dp l⟩
/-- the parts of a term, few -/
def big : Nat → Nat
  | 0 => 1
  | n + 1 => 2 + 3 * big n
mutual
theorem sz_formed : ∀ (d : PyData) (n : Nat), formedD d = true → d.depth ≤ n → szD d ≤ big n
  | .tuple (a :: ds), 0, _, dp => by simp [PyData.depth] at dp
  | .tuple (a :: ds), n + 1, h, dp => by
    obtain ⟨x, ds', e, l3, _, hf⟩ := formed_shape h
    injection e with e
    injection e with e1 e2
    subst e1 e2
    have dd : PyData.depthAll ds ≤ n := by
      simp only [PyData.depth, PyData.depthAll] at dp
      omega
    have := sz_formedAll ds n hf dd
    have b0 : ds.length * big n ≤ 3 * big n := Nat.mul_le_mul_right _ l3
    simp only [szD, szAll, big]
    omega
  | .tuple [], _, h, _ => by cases h
  | .none, _, h, _ => by cases h
  | .bool _, _, h, _ => by cases h
  | .int _, _, h, _ => by cases h
  | .str _, _, h, _ => by cases h
  | .list _, _, h, _ => by cases h
  | .dict _, _, h, _ => by cases h
theorem sz_formedAll : ∀ (ds : List PyData) (n : Nat), formedAll ds = true → PyData.depthAll ds ≤ n → szAll ds ≤ ds.length * big n
  | [], _, _, _ => by simp [szAll]
  | d :: ds, n, h, dp => by
    rw [formedAll, Bool.and_eq_true] at h
    rw [PyData.depthAll] at dp
    have h1 := sz_formed d n h.1 (by omega)
    have h2 := sz_formedAll ds n h.2 (by omega)
    rw [szAll, List.length_cons, Nat.add_mul, Nat.one_mul]
    omega
end
theorem big3 : big 3 = 53 := rfl
theorem tx_few {d : PyData} {n : Nat} (h : formedD d = true) (dp : d.depth ≤ n) (ln : n ≤ 6) : (tx d).length ≤ 1000000 := by
  have z := sz_formed d n h dp
  have m : big n ≤ big 6 := by
    have : ∀ i j, i ≤ j → big i ≤ big j := fun i j hij => by
      induction hij with
      | refl => exact Nat.le_refl _
      | step _ ih => exact Nat.le_trans ih (by rw [big]; omega)
    exact this _ _ ln
  have b6 : big 6 = 1457 := rfl
  exact (wr_of h (by omega)).t
section
variable {P : Program} {w : World} {K : PySem.W.Frag} {mg : Str → Option Value} {base : Heap}
/-- (one, other), the less first -/
def ordP (a b : PyData) : PyData := if ltR a b then .tuple [a, b] else .tuple [b, a]
def spLp (K : PySem.W.Frag) : Sp := fun vs H Q _ => ∃ (x y : V) (d e : PyData), vs = [x, y] ∧ Dx K H x d ∧ Dx K H y e ∧ formedD d = true ∧ formedD e = true ∧ d.depth ≤ 60 ∧
  ∀ z H', Same H H' → Dx K H' z (ordP d e) → Q z H'
theorem ok_lp (T : Tx K mg) : FnOk P w K mg base CX0 1 T.a_law_pair T.d_law_pair ["one", "other"] (spLp K) := by
  have nd := sc__law_pair.nd
  refine T.f_law_pair.ok sc__law_pair (fun vs H Q E h => ?_) (fun cdv A outer s H vs Q E hr h => ?_)
  · obtain ⟨x, y, d, e, rfl, _⟩ := h
    rfl
  obtain ⟨x, y, d, e, rfl, hx, hy, fd, fe, dp, q⟩ := h
  refine ⟨_, (pss_one (ps_ret (pe_ifExp (pt_cmpR (op_ltD hr.units) (pv 0) (pv 1) (nomark _)) (pe_tup (pa_cons (pv 0) (pa_cons (pv 1) pa_nil))) (pe_tup (pa_cons (pv 1) (pa_cons (pv 0) pa_nil)))))), ?_⟩
  refine ⟨_, rfl, _, rfl, d, e, hx, hy, alike_formed d e fd fe, (fun z => by rw [z] at fd; cases fd), dp, _, rfl, ite2 (fun h => ?_) (fun h => ?_)⟩
  · refine ⟨_, rfl, _, rfl, by show 2 ≤ sizeLine; decide, fun p np => q _ _ (same_put np) ?_⟩
    rw [ordP, if_pos (show ltR d e from h)]
    exact .tup upd_same (.cons (hx.up (same_put np)) (.cons (hy.up (same_put np)) .nil))
  · refine ⟨_, rfl, _, rfl, by show 2 ≤ sizeLine; decide, fun p np => q _ _ (same_put np) ?_⟩
    rw [ordP, if_neg (show ¬ ltR d e from h)]
    exact .tup upd_same (.cons (hy.up (same_put np)) (.cons (hx.up (same_put np)) .nil))
/-- a pair over rs, the less first -/
structure Pr (rs : List NK) (n : Nat) (z : PyData) : Prop where
  ex : ∃ a b, z = .tuple [a, b] ∧ Tm rs n a ∧ Tm rs n b ∧ ltR a b
theorem pr_ord {rs : List NK} {n : Nat} {a b : PyData} (ha : Tm rs n a) (hb : Tm rs n b) (ne : a ≠ b) : Pr rs n (ordP a b) := by
  unfold ordP
  by_cases h : ltR a b
  · rw [if_pos h]
    exact ⟨a, b, rfl, ha, hb, h⟩
  · rw [if_neg h]
    refine ⟨b, a, rfl, hb, ha, ?_⟩
    rcases ltR_tri ha.fm hb.fm with z | z | z
    · exact absurd z h
    · exact absurd z ne
    · exact z
end
mutual
theorem lay_formed : ∀ (d : PyData), formedD d = true → d.canLay0 = true ∧ d.hasDict = false
  | .tuple (a :: ds), h => by
    obtain ⟨x, ds', e, _, hx, hf⟩ := formed_shape h
    injection e with e
    injection e with e1 e2
    subst e1 e2
    obtain ⟨i1, i2⟩ := lay_formedAll ds hf
    have so : PyData.strOk x = true := Array.all_eq_true'.mpr fun c hc => by
      have := letters_le hx c (Array.mem_toList_iff.mpr hc)
      exact decide_eq_true (by omega)
    exact ⟨by simp [PyData.canLay0, PyData.canLayAll0, so, i1], by simp [PyData.hasDict, PyData.hasDictAll, i2]⟩
  | .tuple [], h => by cases h
  | .none, h => by cases h
  | .bool _, h => by cases h
  | .int _, h => by cases h
  | .str _, h => by cases h
  | .list _, h => by cases h
  | .dict _, h => by cases h
theorem lay_formedAll : ∀ (ds : List PyData), formedAll ds = true → PyData.canLayAll0 ds = true ∧ PyData.hasDictAll ds = false
  | [], _ => ⟨rfl, rfl⟩
  | d :: ds, h => by
    rw [formedAll, Bool.and_eq_true] at h
    obtain ⟨a, b⟩ := lay_formed d h.1
    obtain ⟨c, e⟩ := lay_formedAll ds h.2
    exact ⟨by rw [PyData.canLayAll0, a, c]; rfl, by rw [PyData.hasDictAll, b, e]; rfl⟩
end
section
variable {P : Program} {w : World} {K : PySem.W.Frag} {mg : Str → Option Value} {base : Heap}
def spDp (K : PySem.W.Frag) (n : Nat) : Sp := fun vs H Q _ => ∃ (a b : Addr) (m : Nat) (zs : List Rw), vs = [.ref a, .ref b, .int (n : Int)] ∧ 0 < n ∧ n ≤ 3 ∧ Dice H a m ∧ m + 320 < cap ∧ RowsIn H b zs ∧ b ≠ a ∧ Good (zs.map Prod.snd) ∧
  ∀ (x : V) (d : PyData) H', But a H H' → Dice H' a (m + 320) → Dx K H' x d → Pr (zs.map Prod.snd) n d → Q x H'
theorem cost_le {n : Nat} (h : n ≤ 3) : cost n ≤ 26 := by
  match n, h with
  | 0, _ => decide
  | 1, _ => decide
  | 2, _ => decide
  | 3, _ => decide
theorem cell_tm {rs : List NK} {n : Nat} {x : Str} (n0 : 0 < n) (h : (x, 0) ∈ rs) (nm : isNm x = true) : Tm rs n (.tuple [.str x]) := by
  refine ⟨by simp [formedD, nameD, nm, formedAll], fun r hr => ?_, by simp [PyData.depth, PyData.depthAll]; omega⟩
  simp only [rowsD, headD, rowsAll, List.length_nil, List.mem_singleton] at hr
  rw [hr]
  exact h
theorem ok_dp (T : Tx K mg) (n : Nat) : FnOk P w K mg base CX0 (n + 4) T.a_law_drawn_pair T.d_law_drawn_pair ["dice", "names", "deep"] (spDp K n) := by
  have nd := sc__law_drawn_pair.nd
  have GT := ok_lt (P := P) (w := w) (base := base) T n
  have GP := ok_lp (P := P) (w := w) (base := base) T
  refine T.f_law_drawn_pair.ok sc__law_drawn_pair (fun vs H Q E h => ?_) (fun cdv A outer s H vs Q E hr h => ?_)
  · obtain ⟨a, b, m, zs, rfl, _⟩ := h
    rfl
  obtain ⟨a, b, m, zs, rfl, n0, n3, hd, hm, ri, nba, gd, q⟩ := h
  have c26 := cost_le n3
  refine ⟨_, (pss_cons (ps_for PassesOwn.never rfl (pi_range1 (by rfl) T.b_range (pa_cons pe_int pa_nil)) (pg_name (i := 3) nd rfl (.inl rfl)) (pss_cons (ps_par (i := 4) (j := 5) (by rfl) nd rfl rfl (by decide) rfl rfl (pa_cons (pe_call GT (hr.mono (by omega)) (by rfl) T.g_law_term T.f_law_term.kp T.n_law_term .nil pass0 (pa_cons (pv 0) (pa_cons (pv 1) (pa_cons (pv 2) pa_nil)))) (pa_cons (pe_call GT (hr.mono (by omega)) (by rfl) T.g_law_term T.f_law_term.kp T.n_law_term .nil pass0 (pa_cons (pv 0) (pa_cons (pv 1) (pa_cons (pv 2) pa_nil)))) pa_nil)) (by rfl))
      (pss_one (ps_if (pt_cmpR (op_neF (room200 hr)) (pv 4) (pv 5) (nomark _)) (pss_one (ps_ret (pe_call GP (hr.mono (by omega)) (by rfl) T.g_law_pair T.f_law_pair.kp T.n_law_pair .nil pass0 (pa_cons (pv 4) (pa_cons (pv 5) pa_nil))))) pss_nil))))
      (pss_cons (ps_set (i := 6) nd rfl (.inl rfl) (pe_callB (cr_sortedD hr.units) (by rfl) T.b_sorted (by decide +kernel) (pa_cons (pe_lc (own := [("name", 7), ("places", 8)]) (g := (gTup K 2 (gCons (gName 7) (gCons (gName 8) gNil)))) (by rfl) nd (pi_list (pv 1)) (blkOk_by (own := [("name", 7), ("places", 8)]) (N := N__law_drawn_pair) (sc := defScope s__law_drawn_pair) (by decide +kernel)) (fun _ _ _ _ _ => pg_tup rfl (pgs_cons (pg_name (i := 7) nd rfl (.inl rfl)) (pgs_cons (pg_name (i := 8) nd rfl (.inl rfl)) pgs_nil))) (fun _ _ _ _ _ => (pts_one (pt_cmpR op_eq (pv 8) pe_int (nomark _)))) (fun _ _ _ _ _ => (pv 7))) pa_nil)))
      (pss_one (ps_ret (pe_tup (pa_cons (pe_tup (pa_cons (pe_ix ix_list (pv 6) pe_int (fun _ _ => rfl)) pa_nil)) (pa_cons (pe_tup (pa_cons (pe_ix ix_list (pv 6) pe_int (fun _ _ => rfl)) pa_nil)) pa_nil))))))), ?_⟩
  refine ⟨6, rfl, by decide, by decide, for_range (fun k σ G => But a H G ∧ Dice G a (m + 52 * k) ∧ RowsIn G b zs ∧ ∃ y3 y4 y5, σ = [some (.ref a), some (.ref b), some (.int (n : Int)), y3, y4, y5, none, none, none]) ⟨But.refl a H, hd, ri, none, none, none, rfl⟩ ?_ ?_⟩
  · rintro k σ G hk ⟨bG, dG, rG, y3, y4, y5, rfl⟩
    have hk : k < 6 := hk
    refine ⟨_, rfl, _, rfl, _, rfl, a, b, m + 52 * k, zs, rfl, n0, dG, by omega, rG, nba, gd, fun x1 d1 G1 b1 dd1 dx1 t1 => ?_⟩
    have rG1 := rG.but b1 dG nba
    refine ⟨_, rfl, _, rfl, _, rfl, a, b, m + 52 * k + cost n, zs, rfl, n0, dd1, by omega, rG1, nba, gd, fun x2 d2 G2 b2 dd2 dx2 t2 => ?_⟩
    have bG2 := bG.trans (b1.trans b2)
    have dx1 := Dx.ts (Tups.but b2 dd1) _ _ (pure_formed _ t1.fm) dx1
    obtain ⟨la1, hd1⟩ := lay_formed d1 t1.fm
    obtain ⟨la2, hd2⟩ := lay_formed d2 t2.fm
    have dd2 : Dice G2 a (m + 52 * (k + 1)) := dd2.le (by omega)
    refine ⟨_, _, rfl, ?_⟩
    refine ⟨_, rfl, _, rfl, d1, d2, dx1.dp hd1, dx2.dp hd2, la1, la2, by have := t1.dp; omega, _, rfl, ?_⟩
    cases he : PyData.eqv d1 d2 with
    | true => exact iteF ⟨bG2, dd2, rG1.but b2 dd1 nba, _, _, _, rfl⟩
    | false =>
      have ne : d1 ≠ d2 := fun z => by
        rw [(eqv_formed d1 d2 t1.fm t2.fm).mpr z] at he
        cases he
      exact iteT ⟨_, rfl, _, rfl, x1, x2, d1, d2, rfl, dx1, dx2, t1.fm, t2.fm, by have := t1.dp; omega, fun z H' s dz => q z _ H' (bG2.trans (But.of s)) ((dd2.up s).le (by omega)) dz (pr_ord t1 t2 ne)⟩
  · rintro σ G ⟨bG, dG, rG, y3, y4, y5, rfl⟩
    have dG : Dice G a (m + 312) := dG
    have lzs : zs.length ≤ 20 := by
      have := gd.few
      rwa [List.length_map] at this
    refine ⟨_, rfl, b, rfl, ⟨_, SqL.of rG.1⟩, fun D nD => ?_⟩
    have cells : ∀ i, i ≤ zs.length → ((zs.take i).filter fun z => decide (z.2.2 = 0)).length ≤ 20 := fun i hi => by
      have := List.length_filter_le (fun z : Rw => decide (z.2.2 = 0)) (zs.take i)
      rw [List.length_take] at this
      omega
    refine lc_list (K := K) (a := b) (xs := zs.map fun z => V.ref z.1) (fun i G1 => Same G G1 ∧ G1 D = some (.lst (((zs.take i).filter fun z => decide (z.2.2 = 0)).map fun z => V.str z.2.1))) ⟨same_put nD, upd_same⟩ (fun i G1 _ h => SqL.of (h.1 _ _ rG.1)) ?_ ?_
    · rintro i y G1 hi ⟨sG, eD⟩
      rw [List.getElem?_map] at hi
      obtain ⟨z, hz, rfl⟩ := Option.map_eq_some_iff.mp hi
      have lt : i < zs.length := (List.getElem?_eq_some_iff.mp hz).1
      have ez := sG _ _ (rG.2 z (List.mem_of_getElem? hz))
      have et : (zs.take (i + 1)).filter (fun z => decide (z.2.2 = 0)) = (zs.take i).filter (fun z => decide (z.2.2 = 0)) ++ [z].filter (fun z => decide (z.2.2 = 0)) := by
        rw [List.take_add_one, hz, List.filter_append]
        rfl
      refine ⟨z.1, _, rfl, SqT.of ez, rfl, _, _, rfl, _, _, rfl, rfl, rfl, _, rfl, rfl, _, rfl, ite2 (fun e0 => ?_) (fun e0 => ?_)⟩
      · have z0 : z.2.2 = 0 := by
          have := of_decide_eq_true (p := V.int (z.2.2 : Int) = V.int 0) e0
          injection this with this
          exact Int.ofNat.inj this
        refine ⟨_, rfl, _, eD, ?_, fun c o hc => ?_, ?_⟩
        · rw [List.length_map]
          exact small1000 (by have := cells i (by omega); omega)
        · rw [upd_ne (ne_of_none hc nD)]
          exact sG _ _ hc
        · rw [upd_same, et, List.map_append]
          simp [z0]
      · have z0 : z.2.2 ≠ 0 := fun h => by
          rw [h] at e0
          exact absurd (decide_eq_true rfl) e0
        refine ⟨sG, ?_⟩
        rw [et]
        simp [z0, eD]
    rintro G1 ⟨sG, eD⟩
    rw [List.length_map, List.take_length] at eD
    obtain ⟨cs, ecs⟩ : ∃ cs, cs = (zs.filter fun z => decide (z.2.2 = 0)).map fun z => z.2.1 := ⟨_, rfl⟩
    have lcs : cs.length ≤ 20 := by
      have := cells zs.length (Nat.le_refl _)
      rw [List.take_length] at this
      rw [ecs, List.length_map]
      exact this
    have mcs : ∀ x, x ∈ cs ↔ (x, 0) ∈ zs.map Prod.snd := fun x => by
      rw [ecs]
      simp only [List.mem_map, List.mem_filter, decide_eq_true_eq]
      constructor
      · rintro ⟨z, ⟨hz, h0⟩, rfl⟩
        exact ⟨z, hz, by rw [← h0]⟩
      · rintro ⟨z, hz, e⟩
        exact ⟨z, ⟨hz, by rw [e]⟩, by rw [e]⟩
    have ndc : cs.Nodup := by
      have n1 := gd.nd
      rw [List.map_map] at n1
      rw [ecs]
      exact List.Nodup.sublist ((List.filter_sublist (l := zs)).map _) n1
    have eD2 : G1 D = some (.lst (cs.map V.str)) := by
      rw [eD, ecs, List.map_map]
      rfl
    have fst : ∀ l : List Str, (l.map fun x => ((V.str x, PyData.str x) : Item)).map Prod.fst = l.map V.str := fun l => by rw [List.map_map]; rfl
    have snd : ∀ l : List Str, (l.map fun x => ((V.str x, PyData.str x) : Item)).map Prod.snd = l.map PyData.str := fun l => by rw [List.map_map]; rfl
    refine ⟨D, cs.map fun x => (V.str x, PyData.str x), rfl, by rw [fst]; exact SqL.of eD2, fun p hp => ?_, ?_, ?_, by rw [List.length_map]; exact Nat.le_of_lt (small1000 (by omega)), fun p hp => ?_, fun p np => ?_⟩
    · obtain ⟨x, _, rfl⟩ := List.mem_map.mp hp
      exact .str x
    · rw [snd]
      exact PySem.W.AllAlike.of fun b b' => rfl
    · rw [snd]
      exact PySem.W.Sortable.others fun b => ⟨fun z => (nomatch z), fun xs z => (nomatch z)⟩
    · obtain ⟨x, _, rfl⟩ := List.mem_map.mp hp
      simp [PyData.depth]
    · have srt := sort_strict (k := Prod.snd) (l := cs.map fun x => ((V.str x, PyData.str x) : Item)) (by
        rw [List.map_map, List.Nodup, List.pairwise_map]
        refine ndc.imp fun {x y} ne e => ne ?_
        simp only [Function.comp, PySem.W.keyToks, List.cons.injEq, Sum.inr.injEq, and_true] at e
        exact PySem.W.str_of_cps e)
      obtain ⟨ws, pw, ew⟩ := perm_back (List.mergeSort_perm (cs.map fun x => ((V.str x, PyData.str x) : Item)) (PySem.W.dataLe false Prod.snd)).symm cs rfl
      rw [ew] at srt ⊢
      rw [fst]
      rw [List.pairwise_map] at srt
      obtain ⟨x0, y0, nxy, m1, m2⟩ := gd.two
      have m1 := pw.mem_iff.mpr ((mcs x0).mpr m1)
      have m2 := pw.mem_iff.mpr ((mcs y0).mpr m2)
      match ws, pw, srt, m1, m2 with
      | [], _, _, m1, _ => cases m1
      | [x], _, _, m1, m2 =>
        rw [List.mem_singleton.mp m1, List.mem_singleton.mp m2] at nxy
        exact absurd rfl nxy
      | x :: y :: ws, pw, srt, _, _ =>
        rw [List.pairwise_cons] at srt
        have lxy : ltR (.str x) (.str y) := srt.1 y List.mem_cons_self
        have mx := (mcs x).mp (pw.mem_iff.mp List.mem_cons_self)
        have my := (mcs y).mp (pw.mem_iff.mp (List.mem_cons_of_mem _ List.mem_cons_self))
        have s1 := same_put (o := .lst ((x :: y :: ws).map V.str)) np
        have ep : (upd G1 p (.lst ((x :: y :: ws).map V.str))) p = some (.lst (.str x :: .str y :: ws.map V.str)) := upd_same
        have sG2 := sG.trans s1
        generalize upd G1 p (.lst ((x :: y :: ws).map V.str)) = G2 at ep sG2 ⊢
        refine ⟨_, rfl, p, _, 0, .str x, rfl, rfl, SqL.of ep, atI_nat (j := 0) rfl, by show 1 ≤ sizeLine; decide, fun t1 nt1 => ?_⟩
        have s3 := same_put (o := .tup [.str x]) nt1
        refine ⟨_, rfl, p, _, 1, .str y, rfl, rfl, SqL.of (s3 _ _ ep), atI_nat (j := 1) rfl, by show 1 ≤ sizeLine; decide, fun t2 nt2 => ?_⟩
        have s4 := same_put (o := .tup [.str y]) nt2
        refine ⟨by show 2 ≤ sizeLine; decide, fun t3 nt3 => ?_⟩
        have s5 := same_put (o := .tup [.ref t1, .ref t2]) nt3
        have sA := sG2.trans (s3.trans (s4.trans s5))
        refine q _ (.tuple [.tuple [.str x], .tuple [.str y]]) _ (bG.trans (But.of sA)) ((dG.up sA).le (by omega)) (.tup upd_same (.cons (.tup (s5 _ _ (s4 _ _ upd_same)) (.cons (.str x) .nil)) (.cons (.tup (s5 _ _ upd_same) (.cons (.str y) .nil)) .nil))) ⟨_, _, rfl, ?_, ?_, ?_⟩
        · exact cell_tm n0 mx (gd.nm _ mx).1
        · exact cell_tm n0 my (gd.nm _ my).1
        · have : PyData.eqv (.str x) (.str y) ≠ true := fun z => by
            rw [PyData.eqv, beq_iff_eq] at z
            rw [z] at lxy
            exact ltR_irrefl _ lxy
          unfold ltR at lxy ⊢
          rw [PySem.W.dataLt_tuple, PySem.W.dataLt_cons (by simp [PySem.W.alike]), if_neg this]
          exact lxy
end
end K13
/-! Pairs kept by their texts, and sorted. -/
namespace K13
open PySem PySem.Spec PyProof.Rows L2 Kx
mutual
theorem tx_ne : ∀ (d : PyData), formedD d = true → ∀ c, c ∈ tx d → c ≠ 61
  | .tuple (a :: ds), hd, c, hc => by
    obtain ⟨x, ds', ed, _, hx, hds⟩ := formed_shape hd
    injection ed with ed
    injection ed with e1 e2
    subst e1 e2
    have hc : c ∈ x.cps.toList ++ txA ds := hc
    rcases List.mem_append.mp hc with h | h
    · have := letters hx c h
      omega
    · exact txA_ne ds hds c h
  | .tuple [], hd, _, _ => by cases hd
  | .none, hd, _, _ => by cases hd
  | .bool _, hd, _, _ => by cases hd
  | .int _, hd, _, _ => by cases hd
  | .str _, hd, _, _ => by cases hd
  | .list _, hd, _, _ => by cases hd
  | .dict _, hd, _, _ => by cases hd
theorem txA_ne : ∀ (ds : List PyData), formedAll ds = true → ∀ c, c ∈ txA ds → c ≠ 61
  | [], _, _, hc => by cases hc
  | d :: ds, h, c, hc => by
    rw [formedAll, Bool.and_eq_true] at h
    rw [txA] at hc
    rcases List.mem_cons.mp hc with rfl | hc
    · decide
    · rcases List.mem_append.mp hc with hc | hc
      · exact tx_ne d h.1 c hc
      · rcases List.mem_append.mp hc with hc | hc
        · exact txM_ne ds h.2 c hc
        · rw [List.mem_singleton.mp hc]
          decide
theorem txM_ne : ∀ (ds : List PyData), formedAll ds = true → ∀ c, c ∈ txM ds → c ≠ 61
  | [], _, _, hc => by cases hc
  | d :: ds, h, c, hc => by
    rw [formedAll, Bool.and_eq_true] at h
    rw [txM] at hc
    rcases List.mem_cons.mp hc with rfl | hc
    · decide
    · rcases List.mem_append.mp hc with hc | hc
      · exact tx_ne d h.1 c hc
      · exact txM_ne ds h.2 c hc
end
def keyT (a b : PyData) : Str := tS (tx a ++ 61 :: tx b)
theorem split_at : ∀ {l m u v : List Nat}, (∀ c, c ∈ l → c ≠ 61) → (∀ c, c ∈ m → c ≠ 61) → l ++ 61 :: u = m ++ 61 :: v → l = m ∧ u = v
  | [], [], u, v, _, _, h => by simpa using h
  | [], c :: m, u, v, _, hm, h => by
    simp only [List.nil_append, List.cons_append, List.cons.injEq] at h
    exact absurd h.1.symm (hm c List.mem_cons_self)
  | c :: l, [], u, v, hl, _, h => by
    simp only [List.nil_append, List.cons_append, List.cons.injEq] at h
    exact absurd h.1 (hl c List.mem_cons_self)
  | c :: l, d :: m, u, v, hl, hm, h => by
    simp only [List.cons_append, List.cons.injEq] at h
    obtain ⟨e1, e2⟩ := split_at (fun x hx => hl x (List.mem_cons_of_mem _ hx)) (fun x hx => hm x (List.mem_cons_of_mem _ hx)) h.2
    exact ⟨by rw [h.1, e1], e2⟩
theorem keyT_inj {a b c d : PyData} (fa : formedD a = true) (fc : formedD c = true) (h : keyT a b = keyT c d) : tx a = tx c ∧ tx b = tx d := split_at (tx_ne a fa) (tx_ne c fc) (tS_inj h)
theorem keyT_eq {a b c d : PyData} (h : tx a = tx c) (h2 : tx b = tx d) : keyT a b = keyT c d := by
  unfold keyT
  rw [h, h2]
theorem keyT_text {a b : PyData} : (tS (tx a) ++ "=") ++ tS (tx b) = keyT a b := by
  rw [show ("=" : Str) = tS [61] from rfl, tS_app, tS_app]
  unfold keyT
  simp
/-- the dict of pairs of ds, by their texts -/
structure KpD (K : PySem.W.Frag) (G : Hp) (ds : List PyData) (kvs : List (Key × V)) : Prop where
  nd : (kvs.map Prod.fst).Nodup
  at_ : ∀ p, p ∈ kvs → ∃ a b, p.1 = .inr (keyT a b) ∧ Dx K G p.2 (.tuple [a, b]) ∧ Nz ds a b
  all : ∀ a b, Nz ds a b → (.inr (keyT a b) : Key) ∈ kvs.map Prod.fst
theorem KpD.nil {K : PySem.W.Frag} {G : Hp} : KpD K G [] [] := ⟨List.nodup_nil, (fun p hp => by cases hp), fun a b h => by rcases h.2 with z | z <;> cases z⟩
theorem KpD.ts {K : PySem.W.Frag} {G G' : Hp} {ds : List PyData} {kvs : List (Key × V)} (h : KpD K G ds kvs) (C : Cns ds) (t : Tups G G') : KpD K G' ds kvs := ⟨h.nd, fun p hp => by
  obtain ⟨a, b, e, dp, n⟩ := h.at_ p hp
  obtain ⟨⟨fa, fb⟩, _⟩ := C.side n.2
  exact ⟨a, b, e, Dx.ts t _ _ (pure_two fa fb) dp, n⟩, h.all⟩
theorem KpD.put {K : PySem.W.Frag} {G : Hp} {ds : List PyData} {z : PyData} {kvs : List (Key × V)} {a b : PyData} {v : V} (h : KpD K G ds kvs) (dv : Dx K G v (.tuple [a, b])) (l : tx a < tx b) (ez : z = .tuple [a, b] ∨ z = .tuple [b, a]) : KpD K G (ds ++ [z]) (putK kvs (.inr (keyT a b)) v) := by
  have nz : Nz (ds ++ [z]) a b := ⟨l, by rcases ez with rfl | rfl <;> simp⟩
  refine ⟨nodup_put h.nd, fun p hp => ?_, fun c d hcd => ?_⟩
  · rcases mem_put hp with rfl | ⟨hp, _⟩
    · exact ⟨a, b, rfl, dv, nz⟩
    · obtain ⟨c, d, e, dp, n⟩ := h.at_ p hp
      exact ⟨c, d, e, dp, nz_mono (fun _ hz => List.mem_append_left _ hz) n⟩
  · rw [mem_fst_put]
    have key : ∀ x y : PyData, PyData.tuple [x, y] = z → (tx x = tx a ∧ tx y = tx b) ∨ (tx x = tx b ∧ tx y = tx a) := fun x y e => by
      rcases ez with rfl | rfl
      · simp only [PyData.tuple.injEq, List.cons.injEq, and_true] at e
        obtain ⟨rfl, rfl⟩ := e
        exact .inl ⟨rfl, rfl⟩
      · simp only [PyData.tuple.injEq, List.cons.injEq, and_true] at e
        obtain ⟨rfl, rfl⟩ := e
        exact .inr ⟨rfl, rfl⟩
    have fin : ∀ x y : PyData, tx x < tx y → ((tx x = tx a ∧ tx y = tx b) ∨ (tx x = tx b ∧ tx y = tx a)) → (.inr (keyT x y) : Key) = .inr (keyT a b) := fun x y l2 e => by
      rcases e with ⟨e1, e2⟩ | ⟨e1, e2⟩
      · rw [keyT_eq e1 e2]
      · rw [e1, e2] at l2
        exact absurd (List.lt_trans l2 l) (List.lt_irrefl _)
    rcases hcd.2 with m | m
    · rcases List.mem_append.mp m with m | m
      · exact .inl (h.all c d ⟨hcd.1, .inl m⟩)
      · exact .inr (fin c d hcd.1 (key c d (List.mem_singleton.mp m)))
    · rcases List.mem_append.mp m with m | m
      · exact .inl (h.all c d ⟨hcd.1, .inr m⟩)
      · exact .inr (fin c d hcd.1 ((key d c (List.mem_singleton.mp m)).symm.imp And.symm And.symm))
theorem KpD.skip {K : PySem.W.Frag} {G : Hp} {ds : List PyData} {kvs : List (Key × V)} {a b : PyData} (h : KpD K G ds kvs) (e : tx a = tx b) : KpD K G (ds ++ [.tuple [a, b]]) kvs := by
  refine ⟨h.nd, fun p hp => ?_, fun c d hcd => ?_⟩
  · obtain ⟨c, d, e, dp, n⟩ := h.at_ p hp
    exact ⟨c, d, e, dp, nz_mono (fun _ hz => List.mem_append_left _ hz) n⟩
  · have no : ∀ x y : PyData, PyData.tuple [x, y] = .tuple [a, b] → tx x = tx y := fun x y z => by
      simp only [PyData.tuple.injEq, List.cons.injEq, and_true] at z
      obtain ⟨rfl, rfl⟩ := z
      exact e
    rcases hcd.2 with m | m
    · rcases List.mem_append.mp m with m | m
      · exact h.all c d ⟨hcd.1, .inl m⟩
      · exact absurd hcd.1 (by rw [no c d (List.mem_singleton.mp m)]; exact List.lt_irrefl _)
    · rcases List.mem_append.mp m with m | m
      · exact h.all c d ⟨hcd.1, .inr m⟩
      · exact absurd hcd.1 (by rw [no d c (List.mem_singleton.mp m)]; exact List.lt_irrefl _)
theorem unlocked1 {a : Addr} {H G : Hp} {u : HO} (b : ButL [a] H G) (h : H a = some u) : Same H (upd G a u) := fun c o e => by
  by_cases z : c = a
  · rw [z, h] at e
    rw [z, upd_same]
    exact e
  · rw [upd_ne z]
    exact b c o e (by simp [z])
theorem keyToks_pair {a b c d : PyData} (fa : formedD a = true) (fb : formedD b = true) (fc : formedD c = true) (fd : formedD d = true) (h : PySem.W.keyToks (.tuple [a, b]) = PySem.W.keyToks (.tuple [c, d])) : a = c ∧ b = d := by
  have al : PySem.W.alike (.tuple [a, b]) (.tuple [c, d]) = true := by simp [PySem.W.alike, PySem.W.alikeAll, alike_formed a c fa fc, alike_formed b d fb fd]
  cases q : PyData.eqv (.tuple [a, b]) (.tuple [c, d]) with
  | true =>
    simp only [PyData.eqv, PyData.eqvAll, Bool.and_true, Bool.and_eq_true, eqv_formed a c fa fc, eqv_formed b d fb fd] at q
    exact q
  | false =>
    have z := (PySem.W.toks_eqv _ _ al).2 q [] [.inl 0]
    rw [h, List.append_nil] at z
    have z1 : PyProof.Rows.lexLt itemOrd (PySem.W.keyToks (.tuple [c, d])) (PySem.W.keyToks (.tuple [c, d])) = false := lex_irrefl _
    have z2 := PySem.W.lex_pre (PySem.W.keyToks (.tuple [c, d])) [] [.inl 0]
    rw [List.append_nil, z, z1] at z2
    exact absurd z2 (by decide)
theorem zip_dx {K : PySem.W.Frag} {H : Hp} : ∀ {vs : List V} {ds : List PyData}, DxAll K H vs ds → ∀ p, p ∈ vs.zip ds → Dx K H p.1 p.2
  | [], _, _, p, hp => by cases hp
  | v :: vs, ds, h, p, hp => by
    cases h with
    | cons a b =>
      rcases List.mem_cons.mp hp with rfl | hp
      · exact a
      · exact zip_dx b p hp
/-- sorted([kept[key] for key in kept]) -/
theorem sorted_pairs {K : PySem.W.Frag} {σ : L2.St} {i j : Nat} {H : Hp} {Q : VK} {fd : Addr} {kvs : List (Key × V)} {ds : List PyData} (hi : σ[i]? = some (some (.ref fd))) (hij : i ≠ j) (lj : j < σ.length) (e : H fd = some (.dK kvs)) (kp : KpD K H ds kvs) (C : Cns ds) (few : kvs.length ≤ 300) (dp : ∀ x, x ∈ sidesD ds → x.depth ≤ 58)
    (q : ∀ p us L H', Same H H' → H' p = some (.lst us) → DxAll K H' us L → Prs ds L → Q (.ref p) H') : tLockE (tLc (iKeys (tVar i)) (gName j) tYes (tDGet (tVar i) (tVar j)) [j]) σ H fun x H1 => rSortD K [x] H1 Q := by
  have hi2 : (σ.set j none)[i]? = some (some (.ref fd)) := by rw [List.getElem?_set_ne hij.symm]; exact hi
  refine ⟨fd, .dK kvs, e, trivial, fun od => ⟨_, hi, fd, od, rfl, .inl ⟨kvs, upd_same, fun D nD => ?_⟩⟩⟩
  have eL : (upd H fd (.frz od (.dK kvs))) fd = some (.frz od (.dK kvs)) := upd_same
  have bL : ButL [fd] H (upd H fd (.frz od (.dK kvs))) := ButL.refl.put (List.mem_singleton_self _)
  have tL : Tups H (upd H fd (.frz od (.dK kvs))) := fun b us h => by
    rw [upd_ne (ne_of h e (fun z => nomatch z))]
    exact h
  have kpL := kp.ts C tL
  generalize upd H fd (.frz od (.dK kvs)) = L at eL bL kpL nD ⊢
  have nfD : fd ≠ D := ne_of_none eL nD
  refine lc_keys (fun n G => Same L G ∧ ∃ vs M, G D = some (.lst vs) ∧ DxAll K L vs M ∧ vs = (kvs.take n).map Prod.snd ∧ M.length = vs.length ∧ ∀ (m : Nat) z, M[m]? = some z → ∃ a b, z = .tuple [a, b] ∧ Nz ds a b ∧ ∃ p, kvs[m]? = some p ∧ p.1 = .inr (keyT a b)) ⟨same_put nD, [], [], upd_same, .nil, rfl, rfl, fun m z h => by cases h⟩ (fun n G h => h.1 _ _ eL) ?_ ?_
  · rintro n k v G hk ⟨sG, vs, M, eD, dM, ev, lM, aM⟩
    have mem := List.mem_of_getElem? hk
    have lt : n < kvs.length := (List.getElem?_eq_some_iff.mp hk).1
    obtain ⟨a, b, ek, dv, nz⟩ := kpL.at_ _ mem
    have lv : vs.length = n := by
      rw [ev, List.length_map, List.length_take]
      omega
    refine ⟨by show ((σ.set j none).set j (some (kV k))).set j none = σ.set j none; rw [List.set_set, List.set_set], (iteT (B := False) ?_ : if true = true then _ else False)⟩
    refine ⟨_, (by show ((σ.set j none).set j (some (kV k)))[i]? = _; rw [List.getElem?_set_ne hij.symm]; exact hi2), _, (by show ((σ.set j none).set j (some (kV k)))[j]? = _; rw [List.getElem?_set_self (by rw [List.length_set]; exact lj)]), fd, v, rfl, .inl ⟨kvs, k, .inr ⟨od, sG _ _ eL⟩, rfl, (val_of_mem kpL.nd mem).symm⟩, vs, eD, small1000 (by omega), fun c o hc => ?_, vs ++ [v], M ++ [.tuple [a, b]], upd_same, DxAll.append dM (.cons dv .nil), ?_, by rw [List.length_append, List.length_append, lM]; rfl, fun m z hm => ?_⟩
    · rw [upd_ne (ne_of_none hc nD)]
      exact sG c o hc
    · rw [ev, List.take_add_one, hk, List.map_append]
      rfl
    · by_cases hmn : m < M.length
      · rw [List.getElem?_append_left hmn] at hm
        exact aM m z hm
      · rw [List.getElem?_append_right (by omega)] at hm
        have m0 : m = n := by
          have := (List.getElem?_eq_some_iff.mp hm).1
          rw [List.length_singleton] at this
          omega
        rw [m0, lM, lv, Nat.sub_self] at hm
        cases hm
        exact ⟨a, b, rfl, nz, _, by rw [m0]; exact hk, ek⟩
  · rintro G ⟨sG, vs, M, eD, dM, ev, lM, aM⟩
    rw [List.take_length] at ev
    refine ⟨sG _ _ eL, ?_⟩
    have s1 : Same H (upd G fd (.dK kvs)) := unlocked1 (bL.trans (ButL.of sG)) e
    have eD1 : (upd G fd (.dK kvs)) D = some (.lst vs) := by
      rw [upd_ne nfD.symm]
      exact eD
    have tG : Tups L (upd G fd (.dK kvs)) := fun b us h => by
      rw [upd_ne (ne_of h eL (fun z => nomatch z))]
      exact sG _ _ h
    have cM : ∀ z, z ∈ M → ∃ a b, z = .tuple [a, b] ∧ Nz ds a b := fun z hz => by
      obtain ⟨m, hm⟩ := List.getElem?_of_mem hz
      obtain ⟨a, b, e, n, _⟩ := aM m z hm
      exact ⟨a, b, e, n⟩
    have pM : pureAll M = true := by
      have : ∀ l : List PyData, (∀ z, z ∈ l → ∃ a b, z = .tuple [a, b] ∧ Nz ds a b) → pureAll l = true := fun l => by
        induction l with
        | nil => intro _; rfl
        | cons z l ih =>
          intro h
          obtain ⟨a, b, rfl, n⟩ := h z List.mem_cons_self
          obtain ⟨⟨fa, fb⟩, _⟩ := C.side n.2
          rw [pureAll, pure_two fa fb, ih fun y hy => h y (List.mem_cons_of_mem _ hy)]
          rfl
      exact this M cM
    have dM1 := DxAll.ts tG _ _ pM dM
    generalize upd G fd (.dK kvs) = H1 at s1 eD1 dM1 ⊢
    have lv : vs.length ≤ 300 := by
      rw [ev, List.length_map]
      exact few
    obtain ⟨its, ei⟩ : ∃ its : List Item, its = vs.zip M := ⟨_, rfl⟩
    have e1 : its.map Prod.fst = vs := by rw [ei, List.map_fst_zip (by omega)]
    have e2 : its.map Prod.snd = M := by rw [ei, List.map_snd_zip (by omega)]
    have each : ∀ p, p ∈ its → Dx K H1 p.1 p.2 := by
      rw [ei]
      exact zip_dx dM1
    have inM : ∀ p, p ∈ its → p.2 ∈ M := fun p hp => by rw [← e2]; exact List.mem_map.mpr ⟨p, hp, rfl⟩
    refine ⟨D, its, rfl, by rw [e1]; exact SqL.of eD1, fun p hp => ?_, ?_, ?_, ?_, fun p hp => ?_, fun p np => ?_⟩
    · obtain ⟨a, b, ez, n⟩ := cM _ (inM p hp)
      obtain ⟨⟨fa, fb⟩, _⟩ := C.side n.2
      refine Dx.dp ?_ (each p hp)
      rw [ez]
      simp [PyData.hasDict, PyData.hasDictAll, (lay_formed a fa).2, (lay_formed b fb).2]
    · rw [e2]
      intro d hd d' hd'
      obtain ⟨a, b, rfl, n⟩ := cM d hd
      obtain ⟨a', b', rfl, n'⟩ := cM d' hd'
      obtain ⟨⟨fa, fb⟩, _⟩ := C.side n.2
      obtain ⟨⟨fa', fb'⟩, _⟩ := C.side n'.2
      simp [PySem.W.alike, PySem.W.alikeAll, alike_formed a a' fa fa', alike_formed b b' fb fb']
    · rw [e2]
      exact .inl fun d hd => by
        obtain ⟨a, b, rfl, n⟩ := cM d hd
        exact ⟨_, _, rfl⟩
    · have := congrArg List.length e1
      rw [List.length_map] at this
      rw [this]
      exact Nat.le_of_lt (small1000 (by omega))
    · obtain ⟨a, b, ez, n⟩ := cM _ (inM p hp)
      obtain ⟨_, ma, mb⟩ := C.side n.2
      have d1 := dp a ma
      have d2 := dp b mb
      rw [ez]
      simp only [PyData.depth, PyData.depthAll]
      omega
    · have nd : (its.map fun b => PySem.W.keyToks b.2).Nodup := by
        have : (its.map fun b => PySem.W.keyToks b.2) = M.map PySem.W.keyToks := by rw [← e2, List.map_map]; rfl
        rw [this, List.Nodup, List.pairwise_map, List.pairwise_iff_getElem]
        intro m m' hm hm' lt he
        obtain ⟨a, b, ez, n, p1, hp1, k1⟩ := aM m _ (List.getElem?_eq_getElem hm)
        obtain ⟨c, d, ez', n', p2, hp2, k2⟩ := aM m' _ (List.getElem?_eq_getElem hm')
        obtain ⟨⟨fa, fb⟩, _⟩ := C.side n.2
        obtain ⟨⟨fc, fd2⟩, _⟩ := C.side n'.2
        rw [ez, ez'] at he
        obtain ⟨e3, e4⟩ := keyToks_pair fa fb fc fd2 he
        rw [e3, e4, ← k2] at k1
        have h1 := List.getElem?_eq_some_iff.mp hp1
        have h2 := List.getElem?_eq_some_iff.mp hp2
        have ndk := kpL.nd
        rw [List.Nodup, List.pairwise_map, List.pairwise_iff_getElem] at ndk
        have := ndk m m' h1.1 h2.1 lt
        rw [h1.2, h2.2] at this
        exact this k1
      have srt := sort_strict (k := Prod.snd) (l := its) nd
      have pz := List.mergeSort_perm its (PySem.W.dataLe false Prod.snd)
      refine q p _ ((its.mergeSort (PySem.W.dataLe false Prod.snd)).map Prod.snd) _ (s1.trans (same_put np)) upd_same ?_ ⟨fun z => ?_, ?_⟩
      · have each2 : ∀ l : List Item, (∀ p, p ∈ l → Dx K H1 p.1 p.2) → DxAll K H1 (l.map Prod.fst) (l.map Prod.snd) := fun l => by
          induction l with
          | nil => intro _; exact .nil
          | cons x l ih => intro h; exact .cons (h x List.mem_cons_self) (ih fun y hy => h y (List.mem_cons_of_mem _ hy))
        exact (each2 _ fun p hp => each p (pz.mem_iff.mp hp)).up (same_put np)
      · rw [(pz.map Prod.snd).mem_iff, e2]
        constructor
        · intro hz
          exact cM z hz
        · rintro ⟨a, b, rfl, n⟩
          obtain ⟨p1, hp1, k1⟩ := List.mem_map.mp (kpL.all a b n)
          obtain ⟨m, hm⟩ := List.getElem?_of_mem hp1
          have lt : m < M.length := by
            rw [lM, ev, List.length_map]
            exact (List.getElem?_eq_some_iff.mp hm).1
          obtain ⟨c, d, ez, n', p2, hp2, k2⟩ := aM m _ (List.getElem?_eq_getElem lt)
          rw [hm] at hp2
          cases hp2
          rw [k1] at k2
          injection k2 with k2
          obtain ⟨⟨fa, fb⟩, ma, mb⟩ := C.side n.2
          obtain ⟨⟨fc, fd2⟩, mc, md⟩ := C.side n'.2
          obtain ⟨e3, e4⟩ := keyT_inj fa fc k2
          rw [tx_inj fa fc (C.two ma mc) e3, tx_inj fb fd2 (C.two mb md) e4, ← ez]
          exact List.getElem_mem lt
      · rw [List.pairwise_map]
        exact srt
end K13
/-! _law_due, _law_drawn_fact. -/
namespace K13
open PySem PySem.Spec PyProof.Rows L2 Kx
section
variable {P : Program} {w : World} {K : PySem.W.Frag} {mg : Str → Option Value} {base : Heap}
abbrev rAddS : R2 := fun x y H Q => ∃ i j, x = .str i ∧ y = .str j ∧ i.length + j.length ≤ sizeLine ∧ Q (.str (i ++ j)) H
theorem tx_six {d : PyData} (f : formedD d = true) (dp : d.depth ≤ 6) : (tx d).length ≤ 20000 := by
  have z := sz_formed d 6 f dp
  have b6 : big 6 = 1457 := rfl
  have := tx_sz d f
  omega
/-- _law_text(pair[0]) + "=" + _law_text(pair[1]) -/
theorem key_rd {σ : L2.St} {i : Nat} {p : Addr} {u v : V} {a b : PyData} {H : Hp} {Q : VK} (hi : σ[i]? = some (some (.ref p))) (hp : H p = some (.tup [u, v])) (du : Dx K H u a) (dv : Dx K H v b) (fa : formedD a = true) (fb : formedD b = true) (da : a.depth ≤ 6) (db : b.depth ≤ 6)
    (q : ∀ H', Same H H' → Q (.str (keyT a b)) H') : tOp rAddS (tOp rAddS (tCall (spTxt K 6) [] E0 (tCons (tOp (rIxT K) (tVar i) (tC (.int 0))) tNil)) (tC (.str "="))) (tCall (spTxt K 6) [] E0 (tCons (tOp (rIxT K) (tVar i) (tC (.int 1))) tNil)) σ H Q := by
  have la := tx_six fa da
  have lb := tx_six fb db
  have sz : 50000 ≤ sizeLine := by decide
  have e1 : (tS (tx a) ++ "=").length = (tx a).length + 1 := by
    show (tS (tx a) ++ "=").cps.size = _
    rw [← Array.length_toList, str_app, List.length_append]
    simp [tS]
    rfl
  refine ⟨_, hi, p, _, 0, u, rfl, rfl, SqT.of hp, atI_nat (j := 0) rfl, u, a, rfl, du, fa, da, by omega, fun H1 s1 => ?_⟩
  refine ⟨_, _, rfl, rfl, by rw [tS_len]; show (tx a).length + 1 ≤ _; omega, ?_⟩
  refine ⟨_, hi, p, _, 1, v, rfl, rfl, SqT.of (s1 _ _ hp), atI_nat (j := 1) rfl, v, b, rfl, dv.up s1, fb, db, by omega, fun H2 s2 => ?_⟩
  refine ⟨_, _, rfl, rfl, by rw [tS_len, e1]; omega, ?_⟩
  rw [keyT_text]
  exact q H2 (s1.trans s2)
theorem ordP_tx {a b : PyData} (fa : formedD a = true) (fb : formedD b = true) (F : Func (rowsD a ++ rowsD b)) (ne : a ≠ b) : ∃ c d, ordP a b = .tuple [c, d] ∧ tx c < tx d ∧ ((c = a ∧ d = b) ∨ (c = b ∧ d = a)) := by
  unfold ordP
  by_cases h : ltR a b
  · rw [if_pos h]
    exact ⟨a, b, rfl, (tx_lt fa fb F).mpr h, .inl ⟨rfl, rfl⟩⟩
  · rw [if_neg h]
    refine ⟨b, a, rfl, (tx_lt fb fa F.swap).mpr ?_, .inr ⟨rfl, rfl⟩⟩
    rcases ltR_tri fa fb with z | z | z
    · exact absurd z h
    · exact absurd z ne
    · exact z
abbrev rTupOf (K : PySem.W.Frag) : List V → Hp → VK → Prop := fun xs H Q => ∃ p ys, xs = [V.ref p] ∧ ((SqL K H p ys ∧ ∀ l, H l = none → Q (.ref l) (upd H l (.tup ys))) ∨ (SqT K H p ys ∧ Q (.ref p) H))
/-- name = tuple(sorted([kept[key] for key in kept])) -/
theorem asg_sorted {σ : L2.St} {i j g : Nat} {H : Hp} {rest : TS} {D : L2.Ends} {fd : Addr} {kvs : List (Key × V)} {ds : List PyData} (hi : σ[i]? = some (some (.ref fd))) (hij : i ≠ j) (lj : j < σ.length) (e : H fd = some (.dK kvs)) (kp : KpD K H ds kvs) (C : Cns ds) (few : kvs.length ≤ 300) (dp : ∀ x, x ∈ sidesD ds → x.depth ≤ 58)
    (q : ∀ p us L H', Same H H' → H' p = some (.tup us) → DxAll K H' us L → Prs ds L → rest D (σ.set g (some (.ref p))) H') : tSeq (tAsg (tCB (rTupOf K) (tCons (tCB (rSortD K) (tCons (tLockE (tLc (iKeys (tVar i)) (gName j) tYes (tDGet (tVar i) (tVar j)) [j])) tNil)) tNil)) (gName g)) rest D σ H :=
  sorted_pairs (Q := fun y H2 => rTupOf K [y] H2 fun z H3 => rest D (σ.set g (some z)) H3) hi hij lj e kp C few dp fun p us L H1 s1 ep dL pL => ⟨p, us, rfl, .inl ⟨SqL.of ep, fun t nt => q t us L _ (s1.trans (same_put nt)) upd_same (dL.up (same_put nt)) pL⟩⟩
/-- what the law's own fact is -/
def DueD (ds : List PyData) (told r : PyData) : Prop := ∃ L, Prs ds L ∧ ((told = .none ∧ r = .tuple [.tuple L, .none]) ∨ ∃ a b, told = .tuple [a, b] ∧ r = .tuple [.tuple L, ordP a b])
end
end K13
/-! _law_drawn_fact. -/
namespace K13
open PySem PySem.Spec PyProof.Rows L2 Kx
theorem rows_in {rs : List NK} {n : Nat} {a b : PyData} (ha : Tm rs n a) (hb : Tm rs n b) (F : Func rs) : Func (rowsD a ++ rowsD b) := F.sub fun p hp => (List.mem_append.mp hp).elim (ha.rw p) (hb.rw p)
theorem Pr.tx {rs : List NK} {n : Nat} {a b : PyData} (h : Pr rs n (.tuple [a, b])) (F : Func rs) : tx a < tx b ∧ Tm rs n a ∧ Tm rs n b := by
  obtain ⟨a', b', e, ha, hb, l⟩ := h.ex
  simp only [PyData.tuple.injEq, List.cons.injEq, and_true] at e
  obtain ⟨rfl, rfl⟩ := e
  exact ⟨(tx_lt ha.fm hb.fm (rows_in ha hb F)).mpr l, ha, hb⟩
theorem wr_tm {rs : List NK} {n : Nat} {d : PyData} (h : Tm rs n d) (l : n ≤ 6) : Wr d := by
  have b6 : big 6 = 1457 := rfl
  exact wr_of h.fm (by have := sz_formed d 6 h.fm (Nat.le_trans h.dp l); omega)
/-- couples over rs -/
def Cp (rs : List NK) (n : Nat) (z : PyData) : Prop := ∃ a b, z = .tuple [a, b] ∧ Tm rs n a ∧ Tm rs n b
theorem Pr.cp {rs : List NK} {n : Nat} {z : PyData} (h : Pr rs n z) : Cp rs n z := by
  obtain ⟨a, b, e, ha, hb, _⟩ := h.ex
  exact ⟨a, b, e, ha, hb⟩
theorem cp_side {rs : List NK} {n : Nat} {ds : List PyData} (h : ∀ z, z ∈ ds → Cp rs n z) : ∀ x, x ∈ sidesD ds → Tm rs n x := fun x hx => by
  obtain ⟨d, hd, hx⟩ := List.mem_flatMap.mp hx
  obtain ⟨a, b, rfl, ha, hb⟩ := h d hd
  simp only [sidesOf, List.mem_cons, List.not_mem_nil, or_false] at hx
  rcases hx with rfl | rfl
  · exact ha
  · exact hb
theorem cp_cns {rs : List NK} {n : Nat} {ds : List PyData} (h : ∀ z, z ∈ ds → Cp rs n z) (l : n ≤ 6) (F : Func rs) : Cns ds := by
  refine ⟨fun d hd => ?_, F.sub fun p hp => ?_⟩
  · obtain ⟨a, b, e, ha, hb⟩ := h d hd
    exact ⟨a, b, e, wr_tm ha l, wr_tm hb l⟩
  · obtain ⟨x, hx, hp⟩ := rows_mem hp
    exact (cp_side h x hx).rw p hp
/-- a fact over rs -/
structure Fa (rs : List NK) (n m : Nat) (L : List PyData) (c : PyData) : Prop where
  ps : ∀ z, z ∈ L → Pr rs n z
  srt : L.Pairwise ltR
  c : c = .none ∨ Pr rs n c
  len : L.length ≤ m
theorem Fa.all {rs : List NK} {n m : Nat} {L : List PyData} {c : PyData} (h : Fa rs n m L c) : ∀ z, z ∈ L ++ endOf c → Pr rs n z := fun z hz => by
  rcases List.mem_append.mp hz with hz | hz
  · exact h.ps z hz
  · rcases h.c with rfl | hc
    · cases hz
    · obtain ⟨a, b, rfl, _⟩ := hc.ex
      have hz : z ∈ [PyData.tuple [a, b]] := hz
      rw [List.mem_singleton.mp hz]
      exact hc
theorem couples_of {ds : List PyData} (C : Cns ds) : couplesD ds = true := by
  have h1 : ds.all coupleD = true := List.all_eq_true.mpr fun d hd => by
    obtain ⟨a, b, rfl, _⟩ := C.c d hd
    rfl
  have h2 : formedAll (sidesD ds) = true := by
    have : ∀ l : List PyData, (∀ x, x ∈ l → formedD x = true) → formedAll l = true := fun l => by
      induction l with
      | nil => intro _; rfl
      | cons x l ih => intro h; rw [formedAll, h x List.mem_cons_self, ih fun y hy => h y (List.mem_cons_of_mem _ hy)]; rfl
    refine this _ fun x hx => ?_
    obtain ⟨d, hd, hx⟩ := List.mem_flatMap.mp hx
    obtain ⟨a, b, rfl, wa, wb⟩ := C.c d hd
    simp only [sidesOf, List.mem_cons, List.not_mem_nil, or_false] at hx
    rcases hx with rfl | rfl
    · exact wa.f
    · exact wb.f
  simp [couplesD, jointD, h1, h2, C.f]
theorem keyC_lt {ds : List PyData} (C : Cns ds) {a b c d : PyData} (h1 : Nz ds a b) (h2 : Nz ds c d) : ltR (keyC (.tuple [a, b])) (keyC (.tuple [c, d])) ↔ ltR (.tuple [a, b]) (.tuple [c, d]) := key_lt C h1 h2
theorem chain_of : ∀ {ks : List PyData}, ks.Pairwise ltR → chainD ks = true
  | [], _ => rfl
  | [x], _ => rfl
  | x :: y :: ks, h => by
    rw [List.pairwise_cons] at h
    have ih := chain_of h.2
    have e : chainD (x :: y :: ks) = (PySem.W.dataLt x y && chainD (y :: ks)) := by
      simp [chainD]
    rw [e, ih, Bool.and_true]
    exact h.1 y List.mem_cons_self
theorem Fa.fact {rs : List NK} {n m : Nat} {L : List PyData} {c : PyData} (h : Fa rs n m L c) (l : n ≤ 6) (F : Func rs) : factD (.tuple [.tuple L, c]) = true := by
  have C := cp_cns (fun z hz => (h.all z hz).cp) l F
  have ord : (L ++ endOf c).all ordC = true := List.all_eq_true.mpr fun z hz => by
    obtain ⟨a, b, rfl, ha, hb, lt⟩ := (h.all z hz).ex
    exact decide_eq_true ((tx_lt ha.fm hb.fm (rows_in ha hb F)).mpr lt)
  have ch : chainD (L.map keyC) = true := by
    refine chain_of ?_
    rw [List.pairwise_map]
    refine List.Pairwise.imp_of_mem (fun {x y} hx hy lt => ?_) h.srt
    obtain ⟨a, b, rfl, ha, hb, l1⟩ := (h.ps x hx).ex
    obtain ⟨c', d, rfl, hc, hd, l2⟩ := (h.ps y hy).ex
    exact (keyC_lt C ⟨(tx_lt ha.fm hb.fm (rows_in ha hb F)).mpr l1, .inl (List.mem_append_left _ hx)⟩ ⟨(tx_lt hc.fm hd.fm (rows_in hc hd F)).mpr l2, .inl (List.mem_append_left _ hy)⟩).mpr lt
  show (couplesD (L ++ endOf c) && ((L ++ endOf c).all ordC && chainD (L.map keyC))) = true
  rw [couples_of C, ord, ch]
  rfl
mutual
theorem short_formed : ∀ (d : PyData), formedD d = true → shortD d = true
  | .tuple (a :: ds), h => by
    obtain ⟨x, ds', e, _, hx, hf⟩ := formed_shape h
    injection e with e
    injection e with e1 e2
    subst e1 e2
    have : x.length ≤ 2000 := by
      simp only [isNm, Bool.and_eq_true, decide_eq_true_eq] at hx
      omega
    simp [shortD, shortAll, this, short_formedAll ds hf]
  | .tuple [], h => by cases h
  | .none, h => by cases h
  | .bool _, h => by cases h
  | .int _, h => by cases h
  | .str _, h => by cases h
  | .list _, h => by cases h
  | .dict _, h => by cases h
theorem short_formedAll : ∀ (ds : List PyData), formedAll ds = true → shortAll ds = true
  | [], _ => rfl
  | d :: ds, h => by
    rw [formedAll, Bool.and_eq_true] at h
    rw [shortAll, short_formed d h.1, short_formedAll ds h.2]
    rfl
end
theorem cp_size {rs : List NK} {n : Nat} {ds : List PyData} (h : ∀ z, z ∈ ds → Cp rs n z) : shortAll ds = true ∧ szAll ds ≤ ds.length * (2 * big n + 1) := by
  induction ds with
  | nil => exact ⟨rfl, by simp [szAll]⟩
  | cons z ds ih =>
    obtain ⟨i1, i2⟩ := ih fun y hy => h y (List.mem_cons_of_mem _ hy)
    obtain ⟨a, b, rfl, ha, hb⟩ := h z List.mem_cons_self
    have za := sz_formed a n ha.fm ha.dp
    have zb := sz_formed b n hb.fm hb.dp
    refine ⟨by simp [shortAll, shortD, short_formed a ha.fm, short_formed b hb.fm, i1], ?_⟩
    rw [szAll, List.length_cons, Nat.add_mul, Nat.one_mul]
    simp only [szD, szAll]
    omega
theorem Fa.fz {rs : List NK} {n m : Nat} {L : List PyData} {c : PyData} {K : PySem.W.Frag} {H : Hp} {x : V} (h : Fa rs n m L c) (l : n ≤ 6) (sz : (m + 1) * (2 * big n + 1) ≤ 9000) (hm : m ≤ 100) (dx : Dx K H x (.tuple [.tuple L, c])) : Fz K H x (.tuple [.tuple L, c]) := by
  obtain ⟨s1, z1⟩ := cp_size fun z hz => (h.all z hz).cp
  have le : (endOf c).length ≤ 1 := by cases c <;> simp [endOf]
  have z2 : (L ++ endOf c).length * (2 * big n + 1) ≤ (m + 1) * (2 * big n + 1) := Nat.mul_le_mul_right _ (by rw [List.length_append]; have := h.len; omega)
  rw [szAll_append] at z1
  rw [shortAll_append, Bool.and_eq_true] at s1
  have ec : szD c ≤ szAll (endOf c) + 1 ∧ shortD c = true := by
    rcases h.c with rfl | hc
    · exact ⟨by simp [szD, endOf, szAll], rfl⟩
    · obtain ⟨a, b, rfl, _⟩ := hc.ex
      have this : shortAll [PyData.tuple [a, b]] = true := s1.2
      simp only [shortAll, Bool.and_true] at this
      exact ⟨by show _ ≤ szAll [PyData.tuple [a, b]] + 1; simp [szAll], this⟩
  refine ⟨dx, ?_, ?_, fun ps e he => ?_⟩
  · simp [shortD, shortAll, s1.1, ec.2]
  · simp only [szD, szAll]
    omega
  · simp only [PyData.tuple.injEq, List.cons.injEq, and_true] at he
    rw [← he.1]
    have := h.len
    omega
theorem cp_pure {rs : List NK} {n : Nat} {ds : List PyData} (h : ∀ z, z ∈ ds → Cp rs n z) : pureAll ds = true := by
  induction ds with
  | nil => rfl
  | cons z ds ih =>
    obtain ⟨a, b, rfl, ha, hb⟩ := h z List.mem_cons_self
    rw [pureAll, pure_two ha.fm hb.fm, ih fun y hy => h y (List.mem_cons_of_mem _ hy)]
    rfl
theorem lay_cp {rs : List NK} {n : Nat} {ds : List PyData} (h : ∀ z, z ∈ ds → Cp rs n z) : PyData.canLayAll0 ds = true ∧ PyData.hasDictAll ds = false ∧ PyData.depthAll ds ≤ n + 1 := by
  induction ds with
  | nil => exact ⟨rfl, rfl, by simp [PyData.depthAll]⟩
  | cons z ds ih =>
    obtain ⟨i1, i2, i3⟩ := ih fun y hy => h y (List.mem_cons_of_mem _ hy)
    obtain ⟨a, b, rfl, ha, hb⟩ := h z List.mem_cons_self
    obtain ⟨a1, a2⟩ := lay_formed a ha.fm
    obtain ⟨b1, b2⟩ := lay_formed b hb.fm
    have da := ha.dp
    have db := hb.dp
    refine ⟨by simp [PyData.canLayAll0, PyData.canLay0, a1, b1, i1], by simp [PyData.hasDictAll, PyData.hasDict, a2, b2, i2], ?_⟩
    simp only [PyData.depthAll, PyData.depth]
    omega
section
variable {P : Program} {w : World} {K : PySem.W.Frag} {mg : Str → Option Value} {base : Heap}
def spDf (K : PySem.W.Frag) (n : Nat) : Sp := fun vs H Q _ => ∃ (a b : Addr) (most m : Nat) (zs : List Rw), vs = [.ref a, .ref b, .int (n : Int), .int (most : Int)] ∧ 0 < n ∧ n ≤ 3 ∧ most ≤ 3 ∧ Dice H a m ∧ m + 1300 < cap ∧ RowsIn H b zs ∧ b ≠ a ∧ Good (zs.map Prod.snd) ∧
  ∀ (x : V) (L : List PyData) (c : PyData) H', But a H H' → Dice H' a (m + 1300) → Dx K H' x (.tuple [.tuple L, c]) → Fa (zs.map Prod.snd) n 3 L c → Q x H'
theorem ok_df (T : Tx K mg) (n : Nat) (n3 : n ≤ 3) : FnOk P w K mg base CX0 8 T.a_law_drawn_fact T.d_law_drawn_fact ["dice", "names", "deep", "most"] (spDf K n) := by
  have nd := sc__law_drawn_fact.nd
  have GR := ok_roll (P := P) (w := w) (base := base) T
  have GD := (ok_dp (P := P) (w := w) (base := base) T n)
  have GT := ok_txt (P := P) (w := w) (base := base) T 6
  refine T.f_law_drawn_fact.ok sc__law_drawn_fact (fun vs H Q E h => ?_) (fun cdv A outer s H vs Q E hr h => ?_)
  · obtain ⟨a, b, most, m, zs, rfl, _⟩ := h
    rfl
  obtain ⟨a, b, most, m, zs, rfl, n0, _, ms, hd, hm, ri, nba, gd, q⟩ := h
  have hu := hu_of hr
  refine ⟨_, (pss_cons (ps_set (i := 4) nd rfl (.inr rfl) pe_dnewK)
      (pss_cons (ps_for PassesOwn.never rfl (pi_range1 (by rfl) T.b_range (pa_cons (pe_call GR (hr.mono (by omega)) (by rfl) T.g_law_roll T.f_law_roll.kp T.n_law_roll .nil pass0 (pa_cons (pv 0) (pa_cons (pe_op op_add (pv 3) pe_int) pa_nil))) pa_nil)) (pg_name (i := 5) nd rfl (.inl rfl)) (pss_cons (ps_set (i := 6) nd rfl (.inl rfl) (pe_call GD (hr.mono (by omega)) (by rfl) T.g_law_drawn_pair T.f_law_drawn_pair.kp T.n_law_drawn_pair .nil pass0 (pa_cons (pv 0) (pa_cons (pv 1) (pa_cons (pv 2) pa_nil)))))
      (pss_one (ps_asg (pv 6) (pg_sub (pv 4) (pe_op op_add_str (pe_op op_add_str (pe_call GT (hr.mono (by omega)) (by rfl) T.g_law_text T.f_law_text.kp T.n_law_text .nil pass0 (pa_cons (pe_ix ix_tup (pv 6) pe_int (fun _ _ => rfl)) pa_nil)) pe_str) (pe_call GT (hr.mono (by omega)) (by rfl) T.g_law_text T.f_law_text.kp T.n_law_text .nil pass0 (pa_cons (pe_ix ix_tup (pv 6) pe_int (fun _ _ => rfl)) pa_nil))) (set_dict hu))))))
      (pss_cons (ps_set (i := 7) nd rfl (.inl rfl) (pe_callTy call_tuple_of (by rfl) T.b_tuple (by decide +kernel) (pa_cons (pe_callB (cr_sortedD hr.units) (by rfl) T.b_sorted (by decide +kernel) (pa_cons (pe_lock (pe_lc (own := [("text", 8)]) (g := (gName 8)) (tt := tYes) (by rfl) nd (pi_keys (pv 4)) (blkOk_by (own := [("text", 8)]) (N := N__law_drawn_fact) (sc := defScope s__law_drawn_fact) (by decide +kernel)) (fun _ _ _ _ _ => pg_name (i := 8) nd rfl (.inl rfl)) (fun _ _ _ _ _ => pts_nil) (fun _ _ _ _ _ => (pe_dget hu (pv 4) (pv 8) (fun _ _ => rfl))))) pa_nil)) pa_nil)))
      (pss_cons (ps_if (PW.pt (pw_and (pt_cmpR (op_neF (room200 hr)) (pv 7) (pe_tup pa_nil) (nomark _)) (pw_and1 (pt_cmpR op_eq (pe_call GR (hr.mono (by omega)) (by rfl) T.g_law_roll T.f_law_roll.kp T.n_law_roll .nil pass0 (pa_cons (pv 0) (pa_cons pe_int pa_nil))) pe_int (nomark _))))) (pss_one (ps_ret (pe_tup (pa_cons (pv 7) (pa_cons pe_non pa_nil))))) pss_nil)
      (pss_one (ps_ret (pe_tup (pa_cons (pv 7) (pa_cons (pe_call GD (hr.mono (by omega)) (by rfl) T.g_law_drawn_pair T.f_law_drawn_pair.kp T.n_law_drawn_pair .nil pass0 (pa_cons (pv 0) (pa_cons (pv 1) (pa_cons (pv 2) pa_nil)))) pa_nil))))))))), ?_⟩
  intro fd nfd
  have s1 : Same H (upd H fd (.dK [])) := same_put nfd
  have nfa := hd.ne nfd
  have hd1 := hd.up s1
  have F := gd.fn
  refine ⟨_, rfl, _, rfl, _, _, rfl, rfl, a, m, (most : Int) + 1, rfl, hd1, by unfold cap at hm ⊢; omega, by omega, by omega, fun r H1 b1 dd1 r0 r1 => ?_⟩
  obtain ⟨k, rfl⟩ := Int.eq_ofNat_of_zero_le r0
  have k3 : k ≤ 3 := by omega
  refine ⟨(k : Int), rfl, by omega, by omega, ?_⟩
  rw [Int.toNat_natCast]
  refine for_range (fun i σ G => But a H G ∧ Dice G a (m + 1 + 320 * i) ∧ RowsIn G b zs ∧ ∃ ds kvs, G fd = some (.dK kvs) ∧ (∀ z, z ∈ ds → Pr (zs.map Prod.snd) n z) ∧ ds.length = i ∧ KpD K G ds kvs ∧ kvs.length ≤ i ∧ ∃ y5 y6, σ = [some (.ref a), some (.ref b), some (.int (n : Int)), some (.int (most : Int)), some (.ref fd), y5, y6, none, none])
    ⟨(But.of s1).trans b1, dd1, (ri.up s1).but b1 hd1 nba, [], [], b1 _ _ upd_same nfa, (fun z hz => by cases hz), rfl, KpD.nil, Nat.le_refl _, none, none, rfl⟩ ?_ ?_
  · rintro i σ G hi ⟨bG, dG, rG, ds, kvs, ef, pr, ld, kp, lk, y5, y6, rfl⟩
    refine ⟨_, rfl, _, rfl, _, rfl, a, b, m + 1 + 320 * i, zs, rfl, n0, n3, dG, by unfold cap at hm ⊢; omega, rG, nba, gd, fun x d G1 b2 dd2 dx hp => ?_⟩
    obtain ⟨c, e, rfl, tc, te, lt⟩ := hp.ex
    obtain ⟨p5, u5, v5, rfl, hp5, du5, dv5⟩ := dx_couple dx
    refine ⟨_, rfl, _, rfl, key_rd rfl hp5 du5 dv5 tc.fm te.fm (by have := tc.dp; omega) (by have := te.dp; omega) fun G2 t2 => ?_⟩
    have ef2 := t2 _ _ (b2 _ _ ef nfa)
    have tb : Tups G G2 := (Tups.but b2 dG).trans (Tups.of t2)
    have tf : Tups G2 (upd G2 fd (.dK (putK kvs (.inr (keyT c e)) (.ref p5)))) := fun z us hz => by
      rw [upd_ne (ne_of hz ef2 (fun e => nomatch e))]
      exact hz
    have bG3 : But a H (upd G2 fd (.dK (putK kvs (.inr (keyT c e)) (.ref p5)))) := (bG.trans (b2.trans (But.of t2))).put nfd
    refine ⟨fd, _, rfl, DPut.k (k := .inr (keyT c e)) ef2 (small1000 (by omega)), bG3, ((dd2.up t2).put nfa).le (by omega), ?_, ds ++ [.tuple [c, e]], _, upd_same, fun z hz => ?_, by rw [List.length_append, ld]; rfl, ?_, ?_, _, _, rfl⟩
    · have r2 := (rG.but b2 dG nba).up t2
      refine ⟨by rw [upd_ne (ne_of r2.1 ef2 (fun e => nomatch e))]; exact r2.1, fun z hz => ?_⟩
      rw [upd_ne (ne_of (r2.2 z hz) ef2 (fun e => nomatch e))]
      exact r2.2 z hz
    · rcases List.mem_append.mp hz with hz | hz
      · exact pr z hz
      · rw [List.mem_singleton.mp hz]
        exact hp
    · have C := cp_cns (fun z hz => (pr z hz).cp) (by omega) F
      exact KpD.put (kp.ts C (tb.trans tf)) (Dx.ts tf _ _ (pure_two tc.fm te.fm) (dx.up t2)) ((tx_lt tc.fm te.fm (rows_in tc te F)).mpr lt) (.inl rfl)
    · have := length_putK kvs (.inr (keyT c e) : Key) (.ref p5)
      omega
  · rintro σ G ⟨bG, dG, rG, ds, kvs, ef, pr, ld, kp, lk, y5, y6, rfl⟩
    have C := cp_cns (fun z hz => (pr z hz).cp) (by omega) F
    refine asg_sorted (K := K) (i := 4) (j := 8) rfl (by decide) (by show 8 < 9; decide) ef kp C (by omega) (fun y hy => by have := (cp_side (fun z hz => (pr z hz).cp) y hy).dp; omega) fun t us L H2 s2 eT dL pL => ?_
    have prL : ∀ z, z ∈ L → Pr (zs.map Prod.snd) n z := fun z hz => by
      obtain ⟨c, e, rfl, l, m⟩ := (pL.mem z).mp hz
      rcases m with m | m
      · exact pr _ m
      · have := ((pr _ m).tx F).1
        exact absurd (List.lt_trans l this) (List.lt_irrefl _)
    have lL : L.length ≤ 3 := by
      have := pL.len
      omega
    have dG2 := dG.up s2
    have bG2 := bG.trans (But.of s2)
    have rG2 := rG.up s2
    obtain ⟨y1, y2, y3⟩ := lay_cp fun z hz => (prL z hz).cp
    have last : ∀ G3, But a H G3 → Dice G3 a (m + 970) → RowsIn G3 b zs → G3 t = some (.tup us) → DxAll K G3 us L → tTup (tCons (tVar 7) (tCons (tCall (spDp K n) [] E0 (tCons (tVar 0) (tCons (tVar 1) (tCons (tVar 2) tNil)))) tNil)) [some (.ref a), some (.ref b), some (.int (n : Int)), some (.int (most : Int)), some (.ref fd), y5, y6, some (.ref t), none] G3 Q := fun G3 bG3 dG3 rG3 eT3 dL3 => by
      refine ⟨_, rfl, _, rfl, _, rfl, _, rfl, a, b, m + 970, zs, rfl, n0, n3, dG3, by unfold cap at hm ⊢; omega, rG3, nba, gd, fun x d G4 b4 dd4 dx hp => ⟨by show 2 ≤ sizeLine; decide, fun p np => ?_⟩⟩
      have sp := same_put (o := .tup [.ref t, x]) np
      have tA := (Tups.but b4 dG3).trans (Tups.of sp)
      have pL2 : pureAll L = true := cp_pure fun z hz => (prL z hz).cp
      refine q _ L d _ (bG3.trans (b4.trans (But.of sp))) ((dd4.up sp).le (by omega)) (.tup upd_same (.cons (.tup (tA _ _ eT3) (DxAll.ts tA _ _ pL2 dL3)) (.cons (dx.up sp) .nil))) ⟨prL, pL.srt, .inr hp, lL⟩
    refine ⟨_, rfl, by show 0 ≤ sizeLine; decide, fun e0 ne0 => ?_⟩
    have se := same_put (o := .tup []) ne0
    have sF := s2.trans se
    have eT2 := se _ _ eT
    have dL2 := dL.up se
    have bF := bG2.trans (But.of se)
    have dF := dG2.up se
    have rF := rG2.up se
    refine ⟨.tuple L, .tuple [], .tup (.inl (.inl eT2)) (DxAll.dp y2 dL2), .tup (.inl (.inl upd_same)) .nil, by simpa [PyData.canLay0] using y1, rfl, by simp only [PyData.depth]; omega, _, rfl, ?_⟩
    have dF2 : Dice (upd H2 e0 (.tup [])) a (m + 961 + 0) := dF.le (by omega)
    cases L with
    | nil =>
      refine iteF (iteF ?_)
      exact last _ bF (dF.le (by omega)) rF eT2 dL2
    | cons z L =>
      refine iteT ⟨_, rfl, a, m + 961, 6, rfl, dF2, by unfold cap at hm ⊢; omega, by decide, by decide, fun r8 G3 b3 dd3 r80 r81 => ⟨rfl, _, rfl, ite2 (fun e8 => ?_) (fun e8 => ?_)⟩⟩
      · refine ⟨_, rfl, by show 2 ≤ sizeLine; decide, fun p np => ?_⟩
        have sp := same_put (o := .tup [.ref t, .non]) np
        have tA := (Tups.but b3 dF).trans (Tups.of sp)
        refine q _ (z :: L) .none _ (bF.trans (b3.trans (But.of sp))) ((dd3.up sp).le (by omega)) (.tup upd_same (.cons (.tup (tA _ _ eT2) (DxAll.ts tA _ _ (cp_pure fun y hy => (prL y hy).cp) dL2)) (.cons .non .nil))) ⟨prL, pL.srt, .inl rfl, lL⟩
      · have nta : t ≠ a := fun e => by
          obtain ⟨_, _, _, hz, _⟩ := dF
          rw [e] at eT2
          rw [eT2] at hz
          cases hz
        exact last _ (bF.trans b3) (dd3.le (by omega)) (rF.but b3 dF nba) (b3 _ _ eT2 nta) (DxAll.ts (Tups.but b3 dF) _ _ (cp_pure fun y hy => (prL y hy).cp) dL2)
end
end K13
/-! _law_cut_due. -/
namespace K13
open PySem PySem.Spec PyProof.Rows L2 Kx
theorem pr_eqv {rs : List NK} {n : Nat} {x y : PyData} (hx : Pr rs n x) (hy : Pr rs n y) : PyData.eqv x y = true ↔ x = y := by
  obtain ⟨a, b, rfl, ha, hb, _⟩ := hx.ex
  obtain ⟨c, d, rfl, hc, hd, _⟩ := hy.ex
  simp only [PyData.eqv, PyData.eqvAll, Bool.and_true, Bool.and_eq_true, eqv_formed a c ha.fm hc.fm, eqv_formed b d hb.fm hd.fm, PyData.tuple.injEq, List.cons.injEq, and_true]
theorem pr_lay {rs : List NK} {n : Nat} {z : PyData} (h : Pr rs n z) : z.canLay0 = true ∧ z.hasDict = false ∧ z.depth ≤ n + 1 ∧ pureD z = true := by
  obtain ⟨a, b, rfl, ha, hb, _⟩ := h.ex
  obtain ⟨y1, y2, y3⟩ := lay_cp (ds := [.tuple [a, b]]) fun z hz => by rw [List.mem_singleton.mp hz]; exact ⟨a, b, rfl, ha, hb⟩
  simp only [PyData.canLayAll0, PyData.hasDictAll, PyData.depthAll, Bool.and_true, Bool.or_false] at y1 y2 y3
  exact ⟨y1, y2, by omega, pure_two ha.fm hb.fm⟩
theorem ordP_pr {rs : List NK} {n : Nat} {a b : PyData} (h : Pr rs n (.tuple [a, b])) : ordP a b = .tuple [a, b] := by
  obtain ⟨a', b', e, _, _, l⟩ := h.ex
  simp only [PyData.tuple.injEq, List.cons.injEq, and_true] at e
  obtain ⟨rfl, rfl⟩ := e
  rw [ordP, if_pos l]
/-- of pairs and a pair, the law's own fact -/
theorem due_fa {rs : List NK} {n : Nat} {ds : List PyData} {told r : PyData} (h : DueD ds told r) (F : Func rs) (pr : ∀ z, z ∈ ds → Pr rs n z) (pt : told = .none ∨ Pr rs n told) : ∃ L, Prs ds L ∧ r = .tuple [.tuple L, told] ∧ Fa rs n ds.length L told := by
  obtain ⟨L, p, h⟩ := h
  have pL : ∀ z, z ∈ L → Pr rs n z := fun z hz => by
    obtain ⟨c, e, rfl, l, m⟩ := (p.mem z).mp hz
    rcases m with m | m
    · exact pr _ m
    · exact absurd (List.lt_trans l ((pr _ m).tx F).1) (List.lt_irrefl _)
  refine ⟨L, p, ?_, pL, p.srt, pt, p.len⟩
  rcases h with ⟨e1, e2⟩ | ⟨a, b, e1, e2⟩
  · rw [e2, e1]
  · rcases pt with z | z
    · rw [e1] at z; cases z
    · rw [e1] at z ⊢
      rw [e2, ordP_pr z]
theorem pr_told {rs : List NK} {n : Nat} {c : PyData} (h : c = .none ∨ Pr rs n c) (l : n ≤ 6) : c = .none ∨ ∃ a b, c = .tuple [a, b] ∧ formedD a = true ∧ formedD b = true ∧ a.depth ≤ 6 := h.imp id fun h => by
  obtain ⟨a, b, e, ha, hb, _⟩ := h.ex
  exact ⟨a, b, e, ha.fm, hb.fm, Nat.le_trans ha.dp l⟩
theorem fa_pure {rs : List NK} {n m : Nat} {L : List PyData} {c : PyData} (h : Fa rs n m L c) : pureD (.tuple [.tuple L, c]) = true := by
  have p1 := cp_pure fun z hz => (h.ps z hz).cp
  have p2 : pureD c = true := by
    rcases h.c with rfl | hc
    · rfl
    · obtain ⟨a, b, rfl, ha, hb, _⟩ := hc.ex
      exact pure_two ha.fm hb.fm
  simp [pureD, pureAll, p1, p2]
theorem Fa.le {rs : List NK} {n m k : Nat} {L : List PyData} {c : PyData} (h : Fa rs n m L c) (l : m ≤ k) : Fa rs n k L c := ⟨h.ps, h.srt, h.c, Nat.le_trans h.len l⟩
theorem prs_fa {rs : List NK} {n : Nat} {ds : List PyData} {L : List PyData} {c : PyData} (p : Prs ds L) (F : Func rs) (pr : ∀ z, z ∈ ds → Pr rs n z) (pc : c = .none ∨ Pr rs n c) : Fa rs n ds.length L c := by
  have pL : ∀ z, z ∈ L → Pr rs n z := fun z hz => by
    obtain ⟨c, e, rfl, l, m⟩ := (p.mem z).mp hz
    rcases m with m | m
    · exact pr _ m
    · exact absurd (List.lt_trans l ((pr _ m).tx F).1) (List.lt_irrefl _)
  exact ⟨pL, p.srt, pc, p.len⟩
structure Ly (d : PyData) : Prop where
  lay : d.canLay0 = true
  hd : d.hasDict = false
  dp : d.depth ≤ 64
  pu : pureD d = true
theorem fa_ly {rs : List NK} {n m : Nat} {L : List PyData} {c : PyData} (h : Fa rs n m L c) (l : n ≤ 6) : Ly (.tuple [.tuple L, c]) := by
  obtain ⟨y1, y2, y3⟩ := lay_cp fun z hz => (h.ps z hz).cp
  have e : c.canLay0 = true ∧ c.hasDict = false ∧ c.depth ≤ n + 1 := by
    rcases h.c with rfl | pe
    · exact ⟨rfl, rfl, by simp [PyData.depth]⟩
    · obtain ⟨a1, a2, a3, _⟩ := pr_lay pe
      exact ⟨a1, a2, a3⟩
  refine ⟨by simp [PyData.canLay0, PyData.canLayAll0, y1, e.1], by simp [PyData.hasDict, PyData.hasDictAll, y2, e.2.1], ?_, fa_pure h⟩
  have := e.2.2
  simp only [PyData.depth, PyData.depthAll]
  omega
end K13
/-! An exception on its way out of a comprehension. -/
namespace Kx
open PySem PySem.Spec PyProof.Rows L2
variable {X : Cx}
/-- an exception that this def's frame has noted -/
def XH (X : Cx) (W : WX) (u : Value) (s' : Shared) : Prop :=
  ∃ (a : Addr) (B : Heap) (sI : Shared) (pins : List (Addr × Obj)) (σ : L2.St) (H : Hp) (cls : Value) (d : Option Addr),
    u = .ref a ∧ Inv X pins σ H sI ∧ (∀ b o, sI.heap.get? b = some o → b ∉ frs X.stack → B.get? b = some o) ∧ sI.heap.UpToSlots s'.heap ∧
      HandSPX.HeldZ B X.stack a (Zc cls d) X.env.locals s'.heap ∧ H a = none ∧ s'.os = sI.os ∧ AllBare s'.gens ∧ W cls d σ H
theorem XH.xe {W : WX} {u : Value} {s' : Shared} (h : XH X W u s') : XE X W u s' := by
  obtain ⟨a, B, sI, pins, σ, H, cls, d, e, I, nb, up, hh, na, os, ag, w⟩ := h
  exact ⟨a, B, sI, pins, σ, H, cls, d, e, I, nb, up, .inr (.inr hh), na, os, ag, w⟩
theorem note_air {M : Model} {A : Around} {W : WX} {E₁ : Value → Shared → Prop} {u : Value} {s' : Shared} {env : Env} (hs : X.stack = X.env :: X.outer) (hf : X.env.frame = some X.env.locals) (he : ∀ v, noteFrame v env = noteFrame v X.env) (hfr : A.frames = some X.stack) (x : XE X W u s') :
    wpAny M A (noteFrame u env) (fun _ s2 => XH X W u s2 ∧ s'.heap.UpToSlots s2.heap) E₁ s' := by
  obtain ⟨a, B, sI, pins, σ, H, cls, d, rfl, I, nb, up, sky, na, os, ag, w⟩ := x
  rw [he]
  rw [hs] at sky hfr
  have fin : ∀ h1, HandSPX.HeldZ B (X.env :: X.outer) a (Zc cls d) X.env.locals h1 → s'.heap.UpToSlots h1 → XH X W (.ref a) { s' with heap := h1 } ∧ s'.heap.UpToSlots h1 := fun h1 hh u1 =>
    ⟨⟨a, B, sI, pins, σ, H, cls, d, rfl, I, nb, up.trans u1, by rw [hs]; exact hh, na, os, ag, w⟩, u1⟩
  rcases sky with ⟨hB, hn, hl, oe, vs, e1, hz, hd, h1⟩ | fl | hh
  · exact HandSPX.look_newZ Zc.steady hfr hl hf e1 hB hn hd h1 hz fin
  · exact HandSPX.looks_onZ Zc.steady hfr hf fl fin
  · exact HandSPX.againZ hf hh.2.2.2 (fin s'.heap hh (Heap.UpToSlots.refl _))
theorem flight_held {M : Model} {A : Around} {W : WX} {E₁ : Value → Shared → Prop} {u : Value} {s' : Shared} (x : XH X W u s') :
    wpAny M A (setFlight u (some X.env.locals)) (fun _ s2 => XH X W u s2 ∧ s'.heap.UpToSlots s2.heap) E₁ s' := by
  obtain ⟨a, B, sI, pins, σ, H, cls, d, rfl, I, nb, up, hh, na, os, ag, w⟩ := x
  exact HandSPX.setFlight_onZ hh fun h1 hh1 u1 => ⟨⟨a, B, sI, pins, σ, H, cls, d, rfl, I, nb, up.trans u1, hh1, na, os, ag, w⟩, u1⟩
/-- its head is set -/
theorem held_head {M : Model} {A : Around} {W : WX} {E₁ : Value → Shared → Prop} {u : Value} {s' : Shared} {Q : Value → Shared → Prop} (x : XH X W u s') (q : ∀ T, Q (.ref T) s') : wpAny M A (field u 1) Q E₁ s' := by
  obtain ⟨a, B, sI, pins, σ, H, cls, d, rfl, I, nb, up, hh, na, os, ag, w⟩ := x
  obtain ⟨_, _, _, oe, vs, T, oT, ts, he, hz, hd, h1, _⟩ := hh
  exact wpAny_field he hd h1 (q T)
theorem back_held {M : Model} {A : Around} {W : WX} {R : Value → Shared → Prop} {u : Value} {s' : Shared} {env : Env} (hf : env.frame = some X.env.locals) (x : XH X W u s') (q : ∀ s2, XH X W u s2 → s'.heap.UpToSlots s2.heap → R u s2) :
    cameBackBy M A env R u s' := by
  unfold cameBackBy
  refine wpAny_bind (held_head x fun T => ?_)
  rw [if_neg (show ¬ ((Value.ref T == Value.none) = true) from by simp), hf]
  first
    | exact wpAny_mono (flight_held x) (fun _ _ h => q _ h.1 h.2) fun _ _ h => h
    | exact wpAny_bind (wpAny_pure (wpAny_mono (flight_held x) (fun _ _ h => q _ h.1 h.2) fun _ _ h => h))
theorem pass_held {α : Type} {M : Model} {A : Around} {W : WX} {Q : α → Shared → Prop} {R : Value → Shared → Prop} {u : Value} {s' : Shared} {env : Env} {z : String} (hf : env.frame = some X.env.locals) (x : XH X W u s') (q : ∀ s2, XH X W u s2 → s'.heap.UpToSlots s2.heap → R u s2) :
    wpAny M A (passOn z u env : Sem α) Q R s' := by
  unfold PySem.passOn
  refine wpAny_bind (held_head x fun T => ?_)
  rw [if_neg (show ¬ ((Value.ref T == Value.none) = true) from by simp), hf]
  first
    | exact wpAny_bind (wpAny_mono (flight_held x) (fun _ _ h => wpAny_throw (q _ h.1 h.2)) fun _ _ h => h)
    | exact wpAny_bind (wpAny_pure (wpAny_bind (wpAny_mono (flight_held x) (fun _ _ h => wpAny_throw (q _ h.1 h.2)) fun _ _ h => h)))
/-- what changes at a dict that none of us knows -/
theorem XH.turned {W : WX} {u : Value} {s' : Shared} {C : Addr} {m m' : Str → Option Value} {h' : Heap} (x : XH X W u s') (hC : ∀ cls d σ H, W cls d σ H → H C = none) (hL : C ≠ X.env.locals) (h1 : C ∈ X.ex ∨ X.s_0.heap.objs.size ≤ C) (h2 : ∀ x c, X.env.cells.lookup x = some c → c ≠ C) (h3 : ∀ p ∈ X.pn, p.1 ≠ C) (h4 : C ∉ frs X.stack)
    (n1 : s'.heap.Ns C m) (n2 : h'.Ns C m') (sb : Heap.SameBut C s'.heap h') : XH X W u { s' with heap := h' } := by
  obtain ⟨a, B, sI, pins, σ, H, cls, d, rfl, I, nb, up, ⟨hB, hn, hl, oe, vs, T, oT, ts, he, hz, hd, hv, hnT, hTe, hT, hdT, h5⟩, na, os, ag, w⟩ := x
  obtain ⟨o1, es1, ep1, g1, d1, _⟩ := n1
  have n2' := n2
  obtain ⟨o2, es2, ep2, g2, d2, _⟩ := n2
  have aC : a ≠ C := fun e => by rw [e, g1] at he; cases he; rw [d1] at hd; cases hd
  have tC : T ≠ C := fun e => by rw [e, g1] at hT; cases hT; rw [d1] at hdT; cases hdT
  have fr2 : o2.isFreed = false := (Heap.get?_some_iff.mp g2).2
  obtain ⟨B2, b1, b2⟩ := restrict h' fun b => (B.get? b).isSome
  have bN : ∀ b, B.get? b = none → B2.get? b = none := fun b e => b2 b (by rw [e]; rfl)
  have bS : ∀ b o, B.get? b = some o → b ≠ C → B2.get? b = some o := fun b o e n => by
    rw [b1 b (by rw [e]; rfl), sb.2 b n]
    exact hB b o e
  have fin : ∀ G : Heap, Inv X [] σ H { sI with heap := G } → (∀ b o, b ≠ C → G.get? b = some o → sI.heap.get? b = some o) → (∀ o, G.get? C = some o → o = o2 ∧ ∃ o0, sI.heap.get? C = some o0) → XH X W (.ref a) { s' with heap := h' } := fun G J hG hGC => by
    refine ⟨a, B2, _, [], σ, H, cls, d, rfl, J, fun b o e hb => ?_, fun b o e hf => ?_, ⟨fun b o e => ?_, bN a hn, ?_, oe, vs, T, oT, ts, ?_, hz, hd, hv, bN T hnT, hTe, ?_, hdT, h5⟩, na, os, ag, w⟩
    · by_cases eb : b = C
      · subst eb
        obtain ⟨rfl, o0, k⟩ := hGC o e
        rw [b1 b (by rw [nb b o0 k hb]; rfl)]
        exact g2
      · exact bS b o (nb b o (hG b o eb e) hb) eb
    · by_cases eb : b = C
      · subst eb
        obtain ⟨rfl, o0, k⟩ := hGC o e
        exact ⟨o.slots, g2⟩
      · obtain ⟨sl, e2⟩ := up b o (hG b o eb e) hf
        exact ⟨sl, (sb.2 b eb).trans e2⟩
    · cases k : (B.get? b).isSome with
      | false => rw [b2 b k] at e; cases e
      | true => rw [b1 b k] at e; exact e
    · exact funFrames_none (PySem.Heap.FunFrames.sameBut sb n2' hl) fun L hm => bN L (hl.mem hm).1
    · rw [sb.2 a aC]; exact he
    · rw [sb.2 T tC]; exact hT
  have I0 : Inv X [] σ H sI := I.pins_of fun p hp => nomatch hp
  cases k : sI.heap.get? C with
  | none =>
    refine fin sI.heap I0 (fun b o _ e => e) fun o e => ?_
    rw [k] at e
    cases e
  | some o0 =>
    refine fin (sI.heap.update C fun _ => o2) (Inv.turned (pins := []) (t' := sI.toks) (it := C) (h' := sI.heap.update C fun _ => o2) I0 (fun b o n e => by rw [Heap.get?_update_other _ _ (Ne.symm n)]; exact e) (hC _ _ _ _ w) hL h1 h2 (by simpa using h3)) (fun b o n e => by rw [Heap.get?_update_other _ _ (Ne.symm n)] at e; exact e) fun o e => ?_
    rw [Heap.get?_update_self _ k fr2] at e
    cases e
    exact ⟨rfl, o0, k⟩
theorem ns_up {h h' : Heap} {C : Addr} {m : Str → Option Value} (n : h.Ns C m) (u : h.UpToSlots h') : h'.Ns C m := by
  obtain ⟨o, es, ep, g, d, k⟩ := n
  obtain ⟨sl, e⟩ := u C o g fun vs z => by rw [d] at z; cases z
  exact ⟨_, es, ep, e, d, k⟩
/-- noted, the block's dict at C untouched -/
def XC (X : Cx) (W : WX) (C : Addr) (u : Value) (s' : Shared) : Prop := XH X (fun cls d σ H => W cls d σ H ∧ H C = none) u s' ∧ ∃ m, s'.heap.Ns C m
/-- in the air ahead of its noting -/
def XA (X : Cx) (W : WX) (C : Addr) (u : Value) (s' : Shared) : Prop := XE X (fun cls d σ H => W cls d σ H ∧ H C = none) u s' ∧ ∃ m, s'.heap.Ns C m
theorem note_a {M : Model} {A : Around} {W : WX} {C : Addr} {R : Value → Shared → Prop} {u : Value} {s' : Shared} {env : Env} (hs : X.stack = X.env :: X.outer) (hf : X.env.frame = some X.env.locals) (he : ∀ v, noteFrame v env = noteFrame v X.env) (hfr : A.frames = some X.stack) (x : XA X W C u s') (q : ∀ s2, XC X W C u s2 → R u s2) :
    notedBy M A env R u s' := by
  obtain ⟨x, m, n⟩ := x
  exact wpAny_mono (note_air hs hf he hfr x) (fun _ s2 h => q s2 ⟨h.1, m, ns_up n h.2⟩) fun _ _ h => h
theorem note_c {M : Model} {A : Around} {W : WX} {C : Addr} {R : Value → Shared → Prop} {u : Value} {s' : Shared} {env : Env} (hs : X.stack = X.env :: X.outer) (hf : X.env.frame = some X.env.locals) (he : ∀ v, noteFrame v env = noteFrame v X.env) (hfr : A.frames = some X.stack) (x : XC X W C u s') (q : ∀ s2, XC X W C u s2 → R u s2) :
    notedBy M A env R u s' := note_a hs hf he hfr ⟨x.1.xe, x.2⟩ q
theorem back_c {M : Model} {A : Around} {W : WX} {C : Addr} {R : Value → Shared → Prop} {u : Value} {s' : Shared} {env : Env} (hf : env.frame = some X.env.locals) (x : XC X W C u s') (q : ∀ s2, XC X W C u s2 → R u s2) : cameBackBy M A env R u s' := by
  obtain ⟨x, m, n⟩ := x
  exact back_held hf x fun s2 h u2 => q s2 ⟨h, m, ns_up n u2⟩
end Kx
/-! [elt for a in xs for b in ys], elt may raise. -/
namespace Kx
open PySem PySem.Spec PyProof.Rows L2
/-- the block's context, from which a callee's exceptions (E) may come -/
def blkE (X : Cx) (E : XK) (s : Shared) (H : Hp) (scope : Scope) (ce : Env) (fp : List Addr) : Cx :=
  { X.blk s H scope ce fp with xe := fun e s' => ∃ pins σ H' s0, Inv (X.blk s H scope ce fp) pins σ H' s0 ∧ L2.CX X.prog X.w X.stack H' s0 E e s' }
section
variable {X : Cx} {E : XK} {s3 : Shared} {H3 : Hp} {scope : Scope} {ce : Env} {fp : List Addr} {pins : List (Addr × Obj)} {σ : L2.St} {H : Hp} {s : Shared}
theorem toE (I : Inv (X.blk s3 H3 scope ce fp) pins σ H s) : Inv (blkE X E s3 H3 scope ce fp) pins σ H s :=
  ⟨⟨I.ok.mod, I.ok.kind, I.ok.glob, I.ok.blt, I.ok.above, I.ok.inj, I.ok.has, I.ok.cab, I.ok.hd, I.ok.frames, I.ok.stk, I.ok.exf, I.ok.bs, I.ok.bsz, I.ok.noex, I.ok.exfs, I.ok.funs, I.ok.frf⟩, I.os, I.bare, I.base, I.loc, I.cell, I.free, I.freeC, I.pin, I.hok, I.len⟩
theorem ofE (I : Inv (blkE X E s3 H3 scope ce fp) pins σ H s) : Inv (X.blk s3 H3 scope ce fp) pins σ H s :=
  ⟨⟨I.ok.mod, I.ok.kind, I.ok.glob, I.ok.blt, I.ok.above, I.ok.inj, I.ok.has, I.ok.cab, I.ok.hd, I.ok.frames, I.ok.stk, I.ok.exf, I.ok.bs, I.ok.bsz, I.ok.noex, I.ok.exfs, I.ok.funs, I.ok.frf⟩, I.os, I.bare, I.base, I.loc, I.cell, I.free, I.freeC, I.pin, I.hok, I.len⟩
theorem passE : Passes (L2.CX X.prog X.w) (blkE X E s3 H3 scope ce fp) E := fun pins σ H s e s' I c => ⟨pins, σ, H, s, ofE I, c⟩
end
section
variable {prog : Program} {w : World} {A : Around} {R : Result → Shared → Prop} {s : Shared} {elt t0 i0 t1 i1 : Expr} {ifs0 ifs1 : List Expr} {scope : Scope} {pos : Pos} {it acc : Value} {env : Env}
/-- the first clause's loop: the second one's run may end in an exception -/
theorem outer_loop (hs : ∀ x, foldedSetIterable i1 env x = pure x) (I : Nat → Shared → Prop)
    (turn : ∀ n s, I n s → wpAny (model prog w) A (pyNext it) (fun r s1 => match r with
      | none => R (.ok .next) s1
      | some v => wpAny (model prog w) A (letOwnedTupleGo t0 it v) (fun _ s2 => wpAny (model prog w) A (assign t0 env v) (fun _ s3 =>
          wpAny (model prog w) A (forIn ifs0 true fun c r => if r = true then do let ok ← isTrue c env (eval c env); pure (ForInStep.yield ok) else pure (ForInStep.yield r)) (fun ok s4 =>
            if ok = true then wpAny (model prog w) A (eval i1 env) (fun x s5 => wpAny (model prog w) A (pyIter x) (fun it1 s6 =>
              codeAny (model prog w) A (.compStart (.ListComp elt [⟨t0, i0, ifs0, 0⟩, ⟨t1, i1, ifs1, 0⟩] scope pos) 1 it1 acc env) (fun r s' => match r with
                | .ok _ => ∃ m, m < n ∧ I m s'
                | .error e => cameBackBy (model prog w) A env (notedBy (model prog w) A env fun e s' => R (.error e) s') e s') s6) (fun _ _ => False) s5) (fun _ _ => False) s4
            else ∃ m, m < n ∧ I m s4) (fun _ _ => False) s3) (fun _ _ => False) s2) (fun _ _ => False) s1) (fun _ _ => False) s)
    (n : Nat) (h : I n s) :
    codeAny (model prog w) A (.compLoop (.ListComp elt [⟨t0, i0, ifs0, 0⟩, ⟨t1, i1, ifs1, 0⟩] scope pos) 0 it acc env) R s := by
  refine codeAny_loop rfl I (fun n s hI => ?_) n h
  show wpAny _ A ((compTurn (.ListComp elt [⟨t0, i0, ifs0, 0⟩, ⟨t1, i1, ifs1, 0⟩] scope pos) 0 it acc env).onRaise (fun x => do noteFrame x env; theTreesLotGoes x)) _ _ s
  refine wpAny_noted ?_
  rw [compTurn2_out]
  refine wpAny_bind (wpAny_standAt (wpAny_bind (thnF (turn n s hI) fun r s1 h1 => ?_)))
  cases r with
  | none => exact wpAny_pure h1
  | some v =>
    refine wpAny_bind (thnF h1 fun _ s2 h2 => wpAny_bind (thnF h2 fun _ s3 h3 => wpAny_bind (thnF h3 fun ok s4 h4 => ?_)))
    cases ok with
    | false => exact wpAny_pure ⟨rfl, h4⟩
    | true =>
      refine wpAny_bind (thnF h4 fun x s5 h5 => ?_)
      refine wpAny_bind (wpAny_standAt (wpAny_bind (wpAny_of_eq (hs x) (wpAny_bind (wpAny_holding (thnF h5 fun it1 s6 h6 => ?_))))))
      refine wpAny_bind (wpAny_runOwn ?_)
      rw [Around.mark_none]
      refine codeAny_mono h6 fun r s' hr => ?_
      cases r with
      | ok f =>
        first
          | exact wpAny_pure ⟨rfl, hr⟩
          | exact wpAny_bind (wpAny_pure (wpAny_pure ⟨rfl, hr⟩))
      | error e => exact hr
end
section
variable {X : Cx} {E : XK}
/-- from the block into the def's air -/
theorem air_of {s3 : Shared} {H3 : Hp} {scope : Scope} {ce : Env} {fp : List Addr} {pins : List (Addr × Obj)} {σ : L2.St} (hst : X.stack = X.env :: X.outer) (hf : X.env.frame = some X.env.locals) (I3 : Inv X pins σ H3 s3) (f3 : ∀ b ∈ fp, FpOk X pins H3 b) (nL : ce.locals ≠ X.env.locals) (nF : ce.locals ∉ X.fs) {e : Value} {s' : Shared} (h : (blkE X E s3 H3 scope ce fp).xe e s') :
    XA X (fun cls d _ H => E cls d H) ce.locals e s' := by
  obtain ⟨pins', σ', H', s0, I, c⟩ := h
  have I7 : Inv X pins σ H' s0 := I3.call' (ch := fp) I.os I.base I.hok I.bare fun b hb => ⟨(f3 b hb).2.2.2.1, (f3 b hb).2.1, (f3 b hb).2.2.2.2.1, (f3 b hb).2.2.2.2.2⟩
  have nC : H' ce.locals = none := I.free
  obtain ⟨m, ⟨oC, es, ep, gC, dC, kC⟩, _⟩ := I.loc
  have nfr : ce.locals ∉ frs X.stack := fun z => by
    rw [hst] at z
    unfold frs at z
    rw [List.filterMap_cons, hf] at z
    rcases List.mem_cons.mp z with z | z
    · exact nL z
    · exact nF z
  obtain ⟨a, B, H2, cls, d, rfl, fl, hok, ub, na, os, ag, hE⟩ := c
  have nC2 : H2 ce.locals = none := ub.free _ _ gC nC
  have g2 : s'.heap.get? ce.locals = some oC := fl.1 _ _ (ub.keep _ _ gC nC nfr)
  refine ⟨XE.of_call (E := fun cls d H => E cls d H ∧ H ce.locals = none) I7 (fun _ _ _ h => h) ⟨a, B, H2, cls, d, rfl, fl, hok, ub, na, os, ag, hE, nC2⟩, m, oC, es, ep, g2, dC, kC⟩
theorem fails_of {M : Model} {A : Around} {pins : List (Addr × Obj)} {H3 : Hp} {ce : Env} {e : Value} {s' : Shared} (hst : X.stack = X.env :: X.outer) (hf : X.env.frame = some X.env.locals) (hce : ce.frame = X.env.frame) (tk : Takes X (fun cls d _ H => E cls d H)) (fC : FpOk X pins H3 ce.locals) (x : XC X (fun cls d _ H => E cls d H) ce.locals e s') :
    PySem.CompFails M A X.xe ce e s' := by
  obtain ⟨x, m, n⟩ := x
  refine ⟨m, n, fun h' m' n' sb => ?_⟩
  obtain ⟨f0, f1, f2, f3, f4, f5⟩ := fC
  have nfr : ce.locals ∉ frs X.stack := fun z => by
    rw [hst] at z
    unfold frs at z
    rw [List.filterMap_cons, hf] at z
    rcases List.mem_cons.mp z with z | z
    · exact f1 z
    · exact f2 z
  have y := x.turned (fun _ _ _ _ h => h.2) f1 f3 f4 (fun p hp => f5 p (List.mem_append_left _ hp)) nfr n n' sb
  exact pass_held (hce.trans hf) y fun s2 h _ => tk.imp (W' := fun cls d σ H => E cls d H ∧ H ce.locals = none) (fun _ _ _ _ h => h.1) _ _ h.xe
theorem lc2X_core {pins : List (Addr × Obj)} {s : Shared} {σ : L2.St} {H : Hp} {Q : VK} {pos' : Pos} {use : Option (Value → Sem Unit)} {Qf : Value → Shared → Prop} {elt tg iter tg1 iter1 : Expr} {ifs ifs1 : List Expr} {scope : Scope} {own : List (Str × Nat)} {vs1 : List Nat} {pos : Pos} {wi wi1 : TI} {g g1 : TG} {tt tt1 : TT} {te : TE} (hst : X.stack = X.env :: X.outer) (hf : X.env.frame = some X.env.locals) (tk : Takes X (fun cls d _ H => E cls d H))
    (hc : X.calm = true) (hN : X.N.Nodup) (hi : PI X tg iter wi) (ok : BlkOk X.N X.env.scope scope own) (hv : ∀ i ∈ vs1, i ∈ own.map (·.2))
    (hg : ∀ (s : Shared) (H : Hp) (C : Addr) (cl : List (Str × Addr)) (fp : List Addr), PG (X.blk s H scope (compEnvC scope cl C X.env) fp) tg g) (ht : ∀ (s : Shared) (H : Hp) (C : Addr) (cl : List (Str × Addr)) (fp : List Addr), PTs (X.blk s H scope (compEnvC scope cl C X.env) fp) ifs tt)
    (hi1 : ∀ (s : Shared) (H : Hp) (C : Addr) (cl : List (Str × Addr)) (fp : List Addr), PI (X.blk s H scope (compEnvC scope cl C X.env) fp) tg1 iter1 wi1)
    (hg1 : ∀ (s : Shared) (H : Hp) (C : Addr) (cl : List (Str × Addr)) (fp : List Addr), PG (X.blk s H scope (compEnvC scope cl C X.env) fp) tg1 g1) (ht1 : ∀ (s : Shared) (H : Hp) (C : Addr) (cl : List (Str × Addr)) (fp : List Addr), PTs (X.blk s H scope (compEnvC scope cl C X.env) fp) ifs1 tt1)
    (he : ∀ (s : Shared) (H : Hp) (C : Addr) (cl : List (Str × Addr)) (fp : List Addr), PE (blkE X E s H scope (compEnvC scope cl C X.env) fp) elt te) (hs : ∀ x, foldedSetIterable iter X.env x = pure x) (hs1 : ∀ env x, foldedSetIterable iter1 env x = pure x)
    (I : Inv X pins σ H s) (h : tLc2 wi g tt wi1 g1 tt1 te (own.map (·.2)) vs1 σ H Q)
    (hRR : ∀ (D : Addr) (ce : Env) (s' : Shared) (m : Str → Option Value) (H' : Hp), Inv X pins σ H' s' → Q (.ref D) H' → s'.heap.Ns ce.locals m → FpOk X pins H' ce.locals → PySem.compEnds (model X.prog X.w) X.A X.xe use Qf (.ref D) ce (.ok .next) s') :
    wpAny (model X.prog X.w) X.A (comprehension (.ListComp elt [⟨tg, iter, ifs, 0⟩, ⟨tg1, iter1, ifs1, 0⟩] scope pos) scope X.env pos' (newList []) false (eval iter X.env) use) Qf X.xe s := by

  have hfree : ∀ y ∈ scope.names, y.2 = .free → ∃ c, X.env.cells.lookup y.1 = some c := fun y hy e => (ok.free y hy e).elim (fun k => I.ok.has _ (.inl k)) fun k => I.ok.has _ (.inr k)
  refine PySem.comprehension_at rfl hs (closure_ok hfree) ok.kind (fun y hy e => by rw [ok.uniq y hy, e]) (thn (hi.run pins s σ H _ I h) fun xv s1 hx => thn hx fun itv s2 h2 => ?_)
  obtain ⟨it, fp, tn, J, H2, rfl, I2, T, st2, f2, q⟩ := h2
  refine wpAny_newObj_type (newEnv_comp ?_) (by show 0 ≤ sizeLine; decide)
  generalize hD : s2.heap.objs.size = D
  have hDn : H2 D = none := I2.hok.fresh (Nat.le_of_eq hD)
  obtain ⟨W, ⟨m0, w0⟩, turn⟩ := q D hDn
  generalize hs3 : ({ s2 with heap := s2.heap.push { cls := .type "list", data := .seq ([] : List Value).toArray } } : Shared) = s3
  have h3 : s3.heap = s2.heap.push { cls := .type "list", data := .seq ([] : List Value).toArray } := by rw [← hs3]
  have I3 : Inv X pins σ (upd H2 D (.lst [])) s3 := by
    rw [← hs3]
    refine I2.laid (t' := s2.toks) (fun b o e => Heap.get?_push_of_some _ e) (Nat.le_of_eq hD) ⟨Nat.zero_le _, [], 0, .nil, ?_⟩
    rw [← hD]
    exact Heap.get?_push_size _ rfl
  have lt2 : ∀ b ∈ fp, b < s2.heap.objs.size := fun b hb => by
    obtain ⟨o, e, _⟩ := T.obj _ _ st2 b hb
    exact Heap.lt_size e
  have f3 : ∀ b ∈ fp, FpOk X pins (upd H2 D (.lst [])) b := fun b hb => ⟨by rw [upd_ne (by rw [← hD]; exact Nat.ne_of_lt (lt2 b hb))]; exact (f2 b hb).1, (f2 b hb).2⟩
  have l3 : ∀ b ∈ fp, b < s3.heap.objs.size := fun b hb => by rw [h3, Heap.size_push]; exact Nat.lt_succ_of_lt (lt2 b hb)
  have st3 : tn 0 s3.heap := T.keep _ _ _ st2 fun b _ o e => by rw [h3]; exact Heap.get?_push_of_some _ e
  have I4 := block_start I3 ok hN fun b hb => ⟨f3 b hb, l3 b hb⟩
  have pg := hg s3 (upd H2 D (.lst [])) s3.heap.objs.size (cellsFrom (s3.heap.objs.size + 1) scope.names (cloFrom X.env.cells scope.names [])) fp
  have pt := ht s3 (upd H2 D (.lst [])) s3.heap.objs.size (cellsFrom (s3.heap.objs.size + 1) scope.names (cloFrom X.env.cells scope.names [])) fp
  have pe := he s3 (upd H2 D (.lst [])) s3.heap.objs.size (cellsFrom (s3.heap.objs.size + 1) scope.names (cloFrom X.env.cells scope.names [])) fp
  have pi1 := hi1 s3 (upd H2 D (.lst [])) s3.heap.objs.size (cellsFrom (s3.heap.objs.size + 1) scope.names (cloFrom X.env.cells scope.names [])) fp
  have pg1 := hg1 s3 (upd H2 D (.lst [])) s3.heap.objs.size (cellsFrom (s3.heap.objs.size + 1) scope.names (cloFrom X.env.cells scope.names [])) fp
  have pt1 := ht1 s3 (upd H2 D (.lst [])) s3.heap.objs.size (cellsFrom (s3.heap.objs.size + 1) scope.names (cloFrom X.env.cells scope.names [])) fp
  show codeAny _ _ (.compStart (.ListComp elt [⟨tg, iter, ifs, 0⟩, ⟨tg1, iter1, ifs1, 0⟩] scope pos) 0 (.ref it) (.ref D) (compEnvC scope (cellsFrom (s3.heap.objs.size + 1) scope.names (cloFrom X.env.cells scope.names [])) s3.heap.objs.size X.env)) (PySem.compEnds (model X.prog X.w) X.A X.xe use Qf (.ref D) (compEnvC scope (cellsFrom (s3.heap.objs.size + 1) scope.names (cloFrom X.env.cells scope.names [])) s3.heap.objs.size X.env)) { s3 with heap := pushCells (s3.heap.push { cls := .type "dict", data := .dict #[] }) scope.names }
  have nfp : ∀ b ∈ fp, (upd H2 D (.lst [])) b = none := fun b hb => (f3 b hb).1
  generalize hce : compEnvC scope (cellsFrom (s3.heap.objs.size + 1) scope.names (cloFrom X.env.cells scope.names [])) s3.heap.objs.size X.env = ce at I4 pg pt pe pi1 pg1 pt1 ⊢
  have cL : ce.locals = s3.heap.objs.size := by subst hce; rfl
  have cF : ce.frame = X.env.frame := by subst hce; rfl
  have cN : ∀ v, noteFrame v ce = noteFrame v X.env := by subst hce; intro v; rfl
  have afr : X.A.frames = some X.stack := I.ok.frames
  generalize hH3 : upd H2 D (.lst []) = H3 at I3 I4 pg pt pe pi1 pg1 pt1 w0 nfp f3
  generalize hs4 : ({ s3 with heap := pushCells (s3.heap.push { cls := .type "dict", data := .dict #[] }) scope.names } : Shared) = s4 at I4 ⊢
  have st4 : tn 0 s4.heap := T.keep _ _ _ st3 fun b _ o e => by rw [← hs4]; exact pushCells_keeps _ _ _ _ (Heap.get?_push_of_some _ e)
  have fC : FpOk X pins H3 ce.locals := by
    have z : H3 ce.locals = none := I4.free
    rw [cL] at z ⊢
    exact I3.fpOk (Nat.le_refl _) z
  have air : ∀ {e : Value} {s' : Shared}, (blkE X E s3 H3 scope ce fp).xe e s' → XA X (fun cls d _ H => E cls d H) ce.locals e s' := fun {e s'} z => air_of hst hf I3 f3 fC.2.1 fC.2.2.1 z
  have stat : ∀ {σ' : L2.St} {H' : Hp} {s' : Shared}, Inv (X.blk s3 H3 scope ce fp) [] σ' H' s' → (∀ b ∈ fp, H' b = none) → ∀ b ∈ fp, FpOk (X.blk s3 H3 scope ce fp) [] H' b := fun {σ' H' s'} I' hn b hb =>
    ⟨hn b hb, (I'.ok.exf b hb).1, I'.ok.exfs b hb, .inl hb, fun x c e => (I'.ok.exf b hb).2 x c e, fun p hp => absurd (show p ∈ ([] : List (Addr × Obj)) ++ [] from hp) (by simp)⟩
  have loop : codeAny (model X.prog X.w) X.A (.compLoop (.ListComp elt [⟨tg, iter, ifs, 0⟩, ⟨tg1, iter1, ifs1, 0⟩] scope pos) 0 (.ref it) (.ref D) ce) (PySem.compEnds (model X.prog X.w) X.A X.xe use Qf (.ref D) ce) s4 := by
    refine outer_loop (hs1 ce) (fun n s' => ∃ i H', Inv (X.blk s3 H3 scope ce fp) [] (wipe σ (own.map (·.2))) H' s' ∧ tn i s'.heap ∧ (∀ b ∈ fp, H' b = none) ∧ W i n H') ?_ m0 ⟨0, H3, I4, st4, nfp, w0⟩
    rintro n s5 ⟨i, H5, I5, st5, n5, w5⟩
    rcases turn i n H5 w5 with ⟨stop, qq⟩ | ⟨go, Nx, hNx, step⟩
    · refine thnF (T.done (X.blk s3 H3 scope ce fp) rfl rfl rfl hc i [] s5 _ H5 (fun _ _ => False) I5 (stat I5 n5) st5 stop) fun r s6 ⟨hr, I6⟩ => ?_
      subst hr
      have I7 : Inv X pins σ H5 s6 := I3.call' (ch := fp) I6.os I6.base I6.hok I6.bare fun b hb => ⟨(f3 b hb).2.2.2.1, (f3 b hb).2.1, (f3 b hb).2.2.2.2.1, (f3 b hb).2.2.2.2.2⟩
      obtain ⟨m, hn, _⟩ := I6.loc
      exact hRR D ce s6 m H5 I7 qq hn ⟨I6.free, fC.2⟩
    · refine thnF (T.item (X.blk s3 H3 scope ce fp) rfl rfl rfl hc i [] s5 _ H5 (fun _ _ => False) I5 (stat I5 n5) st5 go) fun r s6 ⟨u, hr, h6⟩ => ?_
      subst hr
      refine thnF h6 fun _ s7 ⟨x, H7, I7, r7, y7, st7, n7⟩ => ?_
      refine thnF (pg.run _ s7 _ H7 x u _ (I7.pinned (stat I7 n7) (T.obj _ _ st7)) r7 (step x H7 y7)) fun _ s8 ⟨σ8, H8, I8, hw8, q8⟩ => ?_
      refine thnF (pt.run _ s8 σ8 H8 _ I8 q8) fun b s9 ⟨H9, I9, q9⟩ => ?_
      have fin : ∀ {σ9 : L2.St} {s' : Shared} {H' : Hp}, Inv (X.blk s3 H3 scope ce fp) ([] ++ pinsAt fp s7.heap) σ9 H' s' → (wipe σ (own.map (·.2))).length = σ9.length → (∀ (j : Nat) v, (wipe σ (own.map (·.2)))[j]? = some (some v) → σ9[j]? = some (some v)) → Nx H' →
          ∃ m, m < n ∧ ∃ i H', Inv (X.blk s3 H3 scope ce fp) [] (wipe σ (own.map (·.2))) H' s' ∧ tn i s'.heap ∧ (∀ b ∈ fp, H' b = none) ∧ W i m H' := fun {σ9 s' H'} I' hl hk nx => by
        obtain ⟨m', hm, w'⟩ := hNx H' nx
        have kept : ∀ b ∈ fp, ∀ o, s7.heap.get? b = some o → s'.heap.get? b = some o ∧ H' b = none := fun b hb o e => by
          have z := I'.pin (b, o) (List.mem_append_right _ (List.mem_append_right _ (mem_pinsAt hb e)))
          exact ⟨z.1, z.2.1⟩
        refine ⟨m', hm, i + 1, H', (I'.unpinned (pins := [])).weak hl hk, T.keep _ _ _ st7 fun b hb o e => (kept b hb o e).1, fun b hb => ?_, w'⟩
        obtain ⟨o, e, _⟩ := T.obj _ _ st7 b hb
        exact (kept b hb o e).2
      have hl8 : (wipe σ (own.map (·.2))).length = σ8.length := by rw [← hw8, wipe_length]
      have hk8 : ∀ (j : Nat) v, (wipe σ (own.map (·.2)))[j]? = some (some v) → σ8[j]? = some (some v) := fun j v e => by
        rw [← hw8] at e
        exact (wipe_some e).1
      have hk9 : ∀ (j : Nat) v, (wipe σ (own.map (·.2)))[j]? = some (some v) → (wipe σ8 vs1)[j]? = some (some v) := fun j v e => by
        rw [← hw8] at e
        obtain ⟨e1, e2⟩ := wipe_some e
        rw [wipe_out fun z => e2 (hv j z)]
        exact e1
      cases b with
      | false =>
        simp only [Bool.false_eq_true, if_false] at q9 ⊢
        exact fin I9 hl8 hk8 q9
      | true =>
        simp only [if_true] at q9 ⊢
        refine thnF (pi1.run _ s9 σ8 H9 _ I9 q9) fun xv s10 hx => thnF hx fun itv s11 h11 => ?_
        obtain ⟨it1, fp1, tn1, J1, H11, rfl, I11, T1, st11, f11, W1, ⟨m1, w1⟩, turn1⟩ := h11
        have stat1 : ∀ {H' : Hp}, (∀ b ∈ fp1, H' b = none) → ∀ b ∈ fp1, FpOk (X.blk s3 H3 scope ce fp) ([] ++ pinsAt fp s7.heap) H' b := fun hn b hb => ⟨hn b hb, (f11 b hb).2⟩
        have loop1 : codeAny (model X.prog X.w) X.A (.compLoop (.ListComp elt [⟨tg, iter, ifs, 0⟩, ⟨tg1, iter1, ifs1, 0⟩] scope pos) 1 (.ref it1) (.ref D) ce)
            (fun r s' => match r with
              | .ok _ => ∃ m, m < n ∧ ∃ i H', Inv (X.blk s3 H3 scope ce fp) [] (wipe σ (own.map (·.2))) H' s' ∧ tn i s'.heap ∧ (∀ b ∈ fp, H' b = none) ∧ W i m H'
              | .error e => cameBackBy (model X.prog X.w) X.A ce (notedBy (model X.prog X.w) X.A ce fun e s' => PySem.compEnds (model X.prog X.w) X.A X.xe use Qf (.ref D) ce (.error e) s') e s') s11 := by
          refine compLoop2_in (fun k s' => ∃ j H', Inv (X.blk s3 H3 scope ce fp) ([] ++ pinsAt fp s7.heap) (wipe σ8 vs1) H' s' ∧ tn1 j s'.heap ∧ (∀ b ∈ fp1, H' b = none) ∧ W1 j k H') ?_ m1 ⟨0, H11, I11.weak (wipe_length _ _) (fun j v e => (wipe_some e).1), st11, fun b hb => (f11 b hb).1, w1⟩
          rintro k s12 ⟨j, H12, I12, st12, n12, w12⟩
          rcases turn1 j k H12 w12 with ⟨stop1, nx1⟩ | ⟨go1, Nx1, hNx1, step1⟩
          · refine thnF (T1.done (X.blk s3 H3 scope ce fp) rfl rfl rfl hc j _ s12 (wipe σ8 vs1) H12 (fun _ _ => False) I12 (stat1 n12) st12 stop1) fun r s13 ⟨hr, I13⟩ => ?_
            subst hr
            exact fin I13 (hl8.trans (wipe_length σ8 vs1).symm) hk9 nx1
          · refine thnF (T1.item (X.blk s3 H3 scope ce fp) rfl rfl rfl hc j _ s12 (wipe σ8 vs1) H12 (fun _ _ => False) I12 (stat1 n12) st12 go1) fun r s13 ⟨u1, hr, h13⟩ => ?_
            subst hr
            refine thnF h13 fun _ s14 ⟨x1, H14, I14, r14, y14, st14, n14⟩ => ?_
            refine thnF (pg1.run _ s14 (wipe σ8 vs1) H14 x1 u1 _ (I14.pinned (stat1 n14) (T1.obj _ _ st14)) r14 (step1 x1 H14 y14)) fun _ s15 ⟨σ15, H15, I15, hw15, q15⟩ => ?_
            refine thnF (pt1.run _ s15 σ15 H15 _ I15 q15) fun b1 s16 ⟨H16, I16, q16⟩ => ?_
            have fin1 : ∀ {s' : Shared} {H' : Hp}, Inv (X.blk s3 H3 scope ce fp) (([] ++ pinsAt fp s7.heap) ++ pinsAt fp1 s14.heap) σ15 H' s' → Nx1 H' → ∃ m, m < k ∧ ∃ j H', Inv (X.blk s3 H3 scope ce fp) ([] ++ pinsAt fp s7.heap) (wipe σ8 vs1) H' s' ∧ tn1 j s'.heap ∧ (∀ b ∈ fp1, H' b = none) ∧ W1 j m H' := fun {s' H'} I' nx => by
              obtain ⟨m', hm, w'⟩ := hNx1 H' nx
              have kept : ∀ b ∈ fp1, ∀ o, s14.heap.get? b = some o → s'.heap.get? b = some o ∧ H' b = none := fun b hb o e => by
                have z := I'.pin (b, o) (List.mem_append_right _ (List.mem_append_right _ (mem_pinsAt hb e)))
                exact ⟨z.1, z.2.1⟩
              refine ⟨m', hm, j + 1, H', I'.unpinned.weak (by rw [← hw15, wipe_length]) (fun j v e => by rw [← hw15] at e; exact (wipe_some e).1), T1.keep _ _ _ st14 fun b hb o e => (kept b hb o e).1, fun b hb => ?_, w'⟩
              obtain ⟨o, e, _⟩ := T1.obj _ _ st14 b hb
              exact (kept b hb o e).2
            cases b1 with
            | false =>
              simp only [Bool.false_eq_true, if_false] at q16 ⊢
              exact fin1 I16 q16
            | true =>
              simp only [if_true] at q16 ⊢
              refine wpAny_mono (pe.run _ s16 σ15 H16 _ (toE I16) q16) (fun z s17 ⟨yv, H17, I17, r17, acc, hD17, hz17, nx⟩ => ?_) fun e s17 bad => ?_
              · exact app_ok (X := X.blk s3 H3 scope ce fp) (ofE I17) hD17 hz17 r17 fun s18 I18 => fin1 I18 nx
              · exact note_a hst hf cN afr (air bad) fun s18 x18 => back_c (cF.trans hf) x18 fun s19 x19 => note_c hst hf cN afr x19 fun s20 x20 => (by cases use <;> exact fails_of hst hf cF tk fC x20)
        exact compStart1_ok loop1 (T1.self X.A 0 _ _ _ st11 loop1)
  exact codeAny_compStart_list loop (T.self X.A 0 _ _ _ st4 loop)
theorem pe_lc2X {elt tg iter tg1 iter1 : Expr} {ifs ifs1 : List Expr} {scope : Scope} {own : List (Str × Nat)} {vs1 : List Nat} {pos : Pos} {wi wi1 : TI} {g g1 : TG} {tt tt1 : TT} {te : TE} (hst : X.stack = X.env :: X.outer) (hf : X.env.frame = some X.env.locals) (tk : Takes X (fun cls d _ H => E cls d H))
    (hc : X.calm = true) (hN : X.N.Nodup) (hi : PI X tg iter wi) (ok : BlkOk X.N X.env.scope scope own) (hv : ∀ i ∈ vs1, i ∈ own.map (·.2))
    (hg : ∀ (s : Shared) (H : Hp) (C : Addr) (cl : List (Str × Addr)) (fp : List Addr), PG (X.blk s H scope (compEnvC scope cl C X.env) fp) tg g) (ht : ∀ (s : Shared) (H : Hp) (C : Addr) (cl : List (Str × Addr)) (fp : List Addr), PTs (X.blk s H scope (compEnvC scope cl C X.env) fp) ifs tt)
    (hi1 : ∀ (s : Shared) (H : Hp) (C : Addr) (cl : List (Str × Addr)) (fp : List Addr), PI (X.blk s H scope (compEnvC scope cl C X.env) fp) tg1 iter1 wi1)
    (hg1 : ∀ (s : Shared) (H : Hp) (C : Addr) (cl : List (Str × Addr)) (fp : List Addr), PG (X.blk s H scope (compEnvC scope cl C X.env) fp) tg1 g1) (ht1 : ∀ (s : Shared) (H : Hp) (C : Addr) (cl : List (Str × Addr)) (fp : List Addr), PTs (X.blk s H scope (compEnvC scope cl C X.env) fp) ifs1 tt1)
    (he : ∀ (s : Shared) (H : Hp) (C : Addr) (cl : List (Str × Addr)) (fp : List Addr), PE (blkE X E s H scope (compEnvC scope cl C X.env) fp) elt te) (hs : ∀ x, foldedSetIterable iter X.env x = pure x := by intro _; rfl) (hs1 : ∀ env x, foldedSetIterable iter1 env x = pure x := by intro _ _; rfl) :
    PE X (.ListComp elt [⟨tg, iter, ifs, 0⟩, ⟨tg1, iter1, ifs1, 0⟩] scope pos) (tLc2 wi g tt wi1 g1 tt1 te (own.map (·.2)) vs1) := by
  refine ⟨fun pins s σ H Q I h => ?_⟩
  rw [eval_ListComp]
  refine lc2X_core hst hf tk hc hN hi ok hv hg ht hi1 hg1 ht1 he hs hs1 I h fun D ce s' m H' I' q hn f => ⟨m, hn, fun h'' sb => ?_⟩
  obtain ⟨f0, f1, f2, f3, f4, f5⟩ := f
  exact ⟨.ref D, H', I'.turned (t' := s'.toks) (fun b o hb e => (sb.2 b hb).trans e) f0 f1 f3 f4 f5, rfl, q⟩
theorem ps_setLc2X {i : Nat} {y : Str} {py spos : Pos} {elt tg iter tg1 iter1 : Expr} {ifs ifs1 : List Expr} {scope : Scope} {own : List (Str × Nat)} {vs1 : List Nat} {pos : Pos} {wi wi1 : TI} {g g1 : TG} {tt tt1 : TT} {te : TE} (hst : X.stack = X.env :: X.outer) (hf : X.env.frame = some X.env.locals) (tk : Takes X (fun cls d _ H => E cls d H))
    (hc : X.calm = true) (hN : X.N.Nodup) (hy : X.N[i]? = some y) (hyl : X.env.scope.names.lookup y = some .local)
    (hsw : swapsWith (.ListComp elt [⟨tg, iter, ifs, 0⟩, ⟨tg1, iter1, ifs1, 0⟩] scope pos) (some (.Name y py)) spos.line X.env = pure true) (hi : PI X tg iter wi) (ok : BlkOk X.N X.env.scope scope own) (hv : ∀ i ∈ vs1, i ∈ own.map (·.2))
    (hg : ∀ (s : Shared) (H : Hp) (C : Addr) (cl : List (Str × Addr)) (fp : List Addr), PG (X.blk s H scope (compEnvC scope cl C X.env) fp) tg g) (ht : ∀ (s : Shared) (H : Hp) (C : Addr) (cl : List (Str × Addr)) (fp : List Addr), PTs (X.blk s H scope (compEnvC scope cl C X.env) fp) ifs tt)
    (hi1 : ∀ (s : Shared) (H : Hp) (C : Addr) (cl : List (Str × Addr)) (fp : List Addr), PI (X.blk s H scope (compEnvC scope cl C X.env) fp) tg1 iter1 wi1)
    (hg1 : ∀ (s : Shared) (H : Hp) (C : Addr) (cl : List (Str × Addr)) (fp : List Addr), PG (X.blk s H scope (compEnvC scope cl C X.env) fp) tg1 g1) (ht1 : ∀ (s : Shared) (H : Hp) (C : Addr) (cl : List (Str × Addr)) (fp : List Addr), PTs (X.blk s H scope (compEnvC scope cl C X.env) fp) ifs1 tt1)
    (he : ∀ (s : Shared) (H : Hp) (C : Addr) (cl : List (Str × Addr)) (fp : List Addr), PE (blkE X E s H scope (compEnvC scope cl C X.env) fp) elt te) (hs : ∀ x, foldedSetIterable iter X.env x = pure x := by intro _; rfl) (hs1 : ∀ env x, foldedSetIterable iter1 env x = pure x := by intro _ _; rfl) :
    PS X (.Assign [.Name y py] (.ListComp elt [⟨tg, iter, ifs, 0⟩, ⟨tg1, iter1, ifs1, 0⟩] scope pos) spos) (tAsg (tLc2 wi g tt wi1 g1 tt1 te (own.map (·.2)) vs1) (gName i)) := by
  refine ⟨fun pins s σ H D I h => ?_⟩
  rw [exec_Assign_Name_used _ _ _ _ hsw]
  refine wpAny_bind (wpAny_standAt (wpAny_bind ?_))
  have h : tLc2 wi g tt wi1 g1 tt1 te (own.map (·.2)) vs1 σ H (fun x H1 => gName i x σ H1 D.nx) := h
  refine wpAny_bind (thn (lc2X_core (use := some (assign (.Name y py) X.env)) (Qf := fun _ s' => SP X pins D .next s') hst hf tk hc hN hi ok hv hg ht hi1 hg1 ht1 he hs hs1 I h fun L ce s' m H' I' q hn f => ?_) fun _ s' hq => wpAny_pure (wpAny_pure hq))
  refine wpAny_assign_Name (store_ok2 (v := V.ref L) I' hN hy (.inl hyl) rfl (fun s2 I2 ⟨a, sb, ha⟩ => ?_) (.inr hyl))
  obtain ⟨f0, f1, f2, f3, f4, f5⟩ := f
  have ne : ce.locals ≠ a := by
    rcases ha with z | z
    · rw [z]; exact f1
    · exact fun e => f4 y a z e.symm
  exact ⟨m, hn.sameBut sb ne, fun h3 sb3 => ⟨_, H', I2.turned (t' := s2.toks) (fun b o hb e => (sb3.2 b hb).trans e) f0 f1 f3 f4 f5, q⟩⟩
end
end Kx
/-! Methods of texts within a comprehension, where K is told. -/
namespace Kx
open PySem PySem.Spec PyProof.Rows L2
def rJoin1 (K : PySem.W.Frag) : V → List V → Hp → VK → Prop := fun x xs H Q => ∃ a p, ∃ ys : List Str, x = .str a ∧ xs = [.ref p] ∧ (SqL K H p (ys.map V.str) ∨ SqT K H p (ys.map V.str)) ∧
  (ys.map (·.length)).sum + ys.length * a.length ≤ 16777216 ∧ Q (.str (Txt.join a ys)) H
theorem pe_joinK {X : Cx} {K : PySem.W.Frag} {o e : Expr} {to te : TE} {apos pos : Pos} (hK : X.K = K) (ho : PE X o to) (he : PE X e te) (hs : starEach [e] X.env = [(false, eval e X.env)] := by rfl) (hbase : attributeBase o "join" X.env (eval o X.env) = eval o X.env := by rfl) (hline : (apos.endLine == pos.line) = true := by rfl) :
    PE X (.Call (.Attribute o "join" apos) [e] [] pos) (tM1 (rJoin1 K) to te) := by
  subst hK
  exact pe_join ho he hs hbase hline
end Kx
/-! fact_text. -/
namespace K13
open PySem PySem.Spec PyProof.Rows L2 Kx
/-- the text of a pair -/
def prS : PyData → Str
  | .tuple [a, b] => Txt.join "=" [tS (tx a), tS (tx b)]
  | _ => Str.empty
def endS : PyData → Str
  | .tuple [a, b] => prS (.tuple [a, b])
  | _ => "never"
def ftS (L : List PyData) (c : PyData) : Str := if L = [] then endS c else (Txt.join " & " (L.map prS) ++ " => ") ++ endS c
theorem join_two (a b : Str) : Txt.join "=" [a, b] = (a ++ "=") ++ b := by
  rw [show Txt.join "=" [a, b] = Str.join "=" [a, b] from StrLaws.glued_eq_join "=" [a, b]]
  rfl
theorem join_len (y : Str) (ps : List Str) : (Txt.join y ps).length ≤ (ps.map (·.length)).sum + ps.length * y.length := by
  rw [show Txt.join y ps = Str.join y ps from StrLaws.glued_eq_join y ps]
  exact StrLaws.join_length_le y ps
theorem pr_len {a b : PyData} (fa : formedD a = true) (fb : formedD b = true) : (prS (.tuple [a, b])).length + 1 ≤ 11 * szD (.tuple [a, b]) := by
  have la := tx_sz a fa
  have lb := tx_sz b fb
  have := join_len "=" [tS (tx a), tS (tx b)]
  simp only [List.map_cons, List.map_nil, List.sum_cons, List.sum_nil, List.length_cons, List.length_nil, tS_len] at this
  have e1 : ("=" : Str).length = 1 := rfl
  rw [e1] at this
  show (Txt.join "=" [tS (tx a), tS (tx b)]).length + 1 ≤ _
  simp only [szD, szAll]
  omega
theorem prs_len : ∀ {L : List PyData}, (∀ d, d ∈ L → ∃ a b, d = .tuple [a, b] ∧ Wr a ∧ Wr b) → ((L.map prS).map (·.length)).sum ≤ 11 * szAll L
  | [], _ => by simp [szAll]
  | d :: L, h => by
    have ih := prs_len (L := L) fun e he => h e (List.mem_cons_of_mem _ he)
    obtain ⟨a, b, rfl, wa, wb⟩ := h d List.mem_cons_self
    have := pr_len wa.f wb.f
    rw [List.map_cons, List.map_cons, List.sum_cons, szAll]
    omega
section
variable {P : Program} {w : World} {K : PySem.W.Frag} {mg : Str → Option Value} {base : Heap}
def spFt (K : PySem.W.Frag) : Sp := fun vs H Q _ => ∃ (x : V) (L : List PyData) (c : PyData), vs = [x] ∧ Fz K H x (.tuple [.tuple L, c]) ∧ factD (.tuple [.tuple L, c]) = true ∧ ∀ H', Same H H' → Q (.str (ftS L c)) H'
theorem ok_ft (T : Tx K mg) : FnOk P w K mg base (L2.CX P w) 7 T.afact_text T.dfact_text ["fact"] (spFt K) := by
  have nd := sc_fact_text.nd
  have GC := ok_ckf (P := P) (w := w) (base := base) T
  have GK := ok_key (P := P) (w := w) (base := base) T
  refine T.ffact_text.okX sc_fact_text (fun vs H Q E h => ?_) (fun cdv A outer s H vs Q E hr h => ?_)
  · obtain ⟨x, L, c, rfl, _⟩ := h
    rfl
  obtain ⟨x, L, c, rfl, hx, fx, q⟩ := h
  refine ⟨_, (pss_cons (ps_expr (pe_call GC (hr.mono (by omega)) (by rfl) T.gcheck_fact T.fcheck_fact.kp T.ncheck_fact .nil (passes_call (takes_of rfl rfl rfl rfl) (fun _ _ _ _ h => h)) (pa_cons (pv 0) pa_nil)))
      (C8.pss_cut (ps_set (i := 1) nd rfl (.inl rfl) (pe_ifExp (pt_cmpR op_isN (pe_ix ix_tup (pv 0) pe_int (fun _ _ => rfl)) pe_non (nomark _)) pe_str (pe_bm PySem.F.plainAttrs_str PySem.F.slot_str_join PySem.F.type_str_join mt_join pe_str (pa_cons (pe_call GK (hr.mono (by omega)) (by rfl) T.gkey_of T.fkey_of.kp T.nkey_of .nil pass0 (pa_cons (pe_ix ix_tup (pv 0) pe_int (fun _ _ => rfl)) pa_nil)) pa_nil))))
      (pss_cons (ps_if (pt_not (pt_truth (pe_ix ix_tup (pv 0) pe_int (fun _ _ => rfl)) (by intro _; rfl))) (pss_one (ps_ret (pv 1))) pss_nil)
      (pss_one (ps_ret (pe_op op_add_str (pe_op op_add_str (pe_bm PySem.F.plainAttrs_str PySem.F.slot_str_join PySem.F.type_str_join mt_join pe_str (pa_cons (pe_lc (own := [("pair", 2)]) (g := (gName 2)) (tt := tYes) (by rfl) nd (pi_tup (pe_ix ix_tup (pv 0) pe_int (fun _ _ => rfl))) (blkOk_by (own := [("pair", 2)]) (N := N_fact_text) (sc := defScope s_fact_text) (by decide +kernel)) (fun _ _ _ _ _ => pg_name (i := 2) nd rfl (.inl rfl)) (fun _ _ _ _ _ => pts_nil) (fun _ _ _ _ _ => (pe_joinK (K := K) rfl pe_str (pe_call GK (hr.mono (by omega)) (by rfl) T.gkey_of T.fkey_of.kp T.nkey_of .nil pass0 (pa_cons (pv 2) pa_nil))))) pa_nil)) pe_str) (pv 1))))))), ?_⟩
  obtain ⟨f1, f2, f3, f4⟩ := fz_parts hx
  have fx' : (couplesD (L ++ endOf c) && ((L ++ endOf c).all ordC && chainD (L.map keyC))) = true := fx
  rw [Bool.and_eq_true] at fx'
  have wr := couples_wr fx'.1 f4
  refine ⟨_, rfl, x, _, rfl, hx, fun _ H1 s1 => ?_, fun z => by rw [fx] at z; cases z⟩
  obtain ⟨f, t, us, v, rfl, hf, ht, hus, hv⟩ := dx_fact (hx.up s1).dx
  have lu := hus.length
  rw [szAll_append] at f4
  refine ⟨fun σ' G => Same H1 G ∧ σ' = [some (.ref f), some (.str (endS c)), none], ?_, ?_⟩
  · refine ⟨_, rfl, f, _, 1, v, rfl, rfl, SqT.of hf, atI_nat (j := 1) rfl, rfl, _, rfl, ?_⟩
    by_cases ev : v = .non
    · have ee := (dx_nil hv).mpr ev
      subst ee
      rw [decide_eq_true ev]
      exact iteT ⟨Same.refl _, rfl⟩
    · have ee : c ≠ .none := fun z => ev ((dx_nil hv).mp z)
      rw [decide_eq_false ev]
      obtain ⟨a, b, rfl, wa, wb⟩ := wr c (List.mem_append_right _ (by rw [endOf_some ee]; exact List.mem_singleton_self _))
      obtain ⟨p, u0, v0, rfl, hp, du, dv⟩ := dx_couple hv
      have l1 := tx_sz a wa.f
      have l2 := tx_sz b wb.f
      have f4 : szAll L + szAll [PyData.tuple [a, b]] ≤ 10000 := f4
      simp only [szAll, szD] at f4
      refine iteF ⟨rfl, _, rfl, f, _, 1, .ref p, rfl, rfl, SqT.of hf, atI_nat (j := 1) rfl, p, u0, v0, a, b, rfl, hp, du, dv, wa, wb, fun pk H2 s2 _ ek => ?_⟩
      refine ⟨_, pk, [tS (tx a), tS (tx b)], rfl, rfl, .inr (SqT.of ek), ?_, s2, rfl⟩
      simp only [List.map_cons, List.map_nil, List.sum_cons, List.sum_nil, List.length_cons, List.length_nil, tS_len]
      have e1 : ("=" : Str).length = 1 := rfl
      rw [e1]
      omega
  rintro σ' G ⟨sG, rfl⟩
  have hf2 := sG _ _ hf
  have ht2 := sG _ _ ht
  refine ⟨_, rfl, f, _, 0, .ref t, rfl, rfl, SqT.of hf2, atI_nat (j := 0) rfl, _, .inr (.inl ⟨us, SqT.of ht2, rfl⟩), ?_⟩
  cases L with
  | nil =>
    cases hus
    exact iteT ⟨_, rfl, q _ (s1.trans sG)⟩
  | cons z L' =>
    have nus : us ≠ [] := fun e => by rw [e] at lu; cases lu
    rw [show (!us.isEmpty) = true by cases us with | nil => exact absurd rfl nus | cons _ _ => rfl]
    have wrL : ∀ d, d ∈ z :: L' → ∃ a b, d = .tuple [a, b] ∧ Wr a ∧ Wr b := fun d hd => wr d (List.mem_append_left _ hd)
    have hus2 := hus.up sG
    have eF : ftS (z :: L') c = (Txt.join " & " ((z :: L').map prS) ++ " => ") ++ endS c := if_neg (by simp)
    rw [eF] at q
    clear eF
    generalize z :: L' = L at hus2 lu wrL f1 f4 q
    refine iteF ⟨rfl, _, rfl, f, _, 0, .ref t, rfl, rfl, SqT.of hf2, atI_nat (j := 0) rfl, t, rfl, ⟨_, SqT.of ht2⟩, fun D nD => ?_⟩
    refine lc_tup (K := K) (a := t) (xs := us) (fun i G2 => Same G G2 ∧ G2 D = some (.lst (((L.take i).map prS).map V.str))) ⟨same_put nD, by rw [List.take_zero]; exact upd_same⟩ (fun i G2 _ h => SqT.of (h.1 _ _ ht2)) ?_ ?_
    · rintro i y G2 hi ⟨s2, e2⟩
      have lt : i < L.length := by
        rw [← lu]
        exact (List.getElem?_eq_some_iff.mp hi).1
      have gd := List.getElem?_eq_getElem lt
      obtain ⟨v2, hv2, dv2⟩ := hus2.get gd
      rw [hi] at hv2
      cases hv2
      obtain ⟨a, b, eab, wa, wb⟩ := wrL _ (List.getElem_mem lt)
      rw [eab] at dv2 gd
      obtain ⟨p, u0, v0, rfl, hp, du, dv⟩ := dx_couple (dv2.up s2)
      refine ⟨rfl, (iteT (B := False) ?_ : if true = true then _ else False)⟩
      refine ⟨⟨_, rfl⟩, _, rfl, p, u0, v0, a, b, rfl, hp, du, dv, wa, wb, fun pk G3 s3 npk ek => ?_⟩
      have l1 := tx_sz a wa.f
      have l2 := tx_sz b wb.f
      have w1 := wa.t
      have w2 := wb.t
      refine ⟨_, pk, [tS (tx a), tS (tx b)], rfl, rfl, .inr (SqT.of ek), ?_, _, s3 _ _ e2, ?_, fun o ob ho => ?_, ?_⟩
      · simp only [List.map_cons, List.map_nil, List.sum_cons, List.sum_nil, List.length_cons, List.length_nil, tS_len]
        have e1 : ("=" : Str).length = 1 := rfl
        rw [e1]
        omega
      · rw [List.length_map, List.length_map, List.length_take]
        exact small1000 (by omega)
      · rw [upd_ne (ne_of_none ho nD)]
        exact s3 _ _ (s2 _ _ ho)
      · rw [upd_same, List.take_add_one, gd, List.map_append, List.map_append]
        rfl
    rintro G2 ⟨s2, e2⟩
    rw [lu, List.take_length] at e2
    have lp := prs_len wrL
    have lc : (endS c).length ≤ 200000 := by
      by_cases ee : c = .none
      · rw [ee]; decide
      · obtain ⟨a, b, rfl, wa, wb⟩ := wr c (List.mem_append_right _ (by rw [endOf_some ee]; exact List.mem_singleton_self _))
        have := pr_len wa.f wb.f
        have e4 : szAll (endOf (.tuple [a, b])) = szAll [PyData.tuple [a, b]] := rfl
        rw [e4, szAll, szAll] at f4
        show (prS (.tuple [a, b])).length ≤ _
        omega
    have lj := join_len " & " (L.map prS)
    rw [List.length_map] at lj
    have e3 : (" & " : Str).length = 3 := rfl
    have e4 : (" => " : Str).length = 4 := rfl
    rw [e3] at lj
    have sz : 1000000 ≤ sizeLine := by decide
    have lcat : ∀ x y : Str, (x ++ y).length = x.length + y.length := fun x y => Str.length_append x y
    refine ⟨_, D, L.map prS, rfl, rfl, .inl (SqL.of e2), by rw [List.length_map, e3]; omega, _, _, rfl, rfl, by rw [e4]; omega, _, rfl, _, _, rfl, rfl, by rw [lcat, e4]; omega, ?_⟩
    exact q _ (s1.trans (sG.trans s2))
end
end K13
/-! _law_fact_text. -/
namespace K13
open PySem PySem.Spec PyProof.Rows L2 Kx
theorem pr_text (a b : PyData) : prS (.tuple [a, b]) = (tS (tx a) ++ "=") ++ tS (tx b) := join_two _ _
theorem lcat (x y : Str) : (x ++ y).length = x.length + y.length := Str.length_append x y
section
variable {P : Program} {w : World} {K : PySem.W.Frag} {mg : Str → Option Value} {base : Heap}
def spLf (K : PySem.W.Frag) : Sp := fun vs H Q _ => ∃ (x : V) (L : List PyData) (c : PyData) (rs : List NK) (m : Nat), vs = [x] ∧ Dx K H x (.tuple [.tuple L, c]) ∧ Fa rs 3 m L c ∧ m ≤ 100 ∧ ∀ H', Same H H' → Q (.str (ftS L c)) H'
theorem ok_lf (T : Tx K mg) : FnOk P w K mg base CX0 8 T.a_law_fact_text T.d_law_fact_text ["fact"] (spLf K) := by
  have nd := sc__law_fact_text.nd
  have G := ok_txt (P := P) (w := w) (base := base) T 6
  refine T.f_law_fact_text.ok sc__law_fact_text (fun vs H Q E h => ?_) (fun cdv A outer s H vs Q E hr h => ?_)
  · obtain ⟨x, L, c, rs, m, rfl, _⟩ := h
    rfl
  obtain ⟨x, L, c, rs, m, rfl, dx, fa, hm, q⟩ := h
  refine ⟨_, (C8.pss_cut (ps_set (i := 1) nd rfl (.inl rfl) (pe_ifExp (pt_cmpR op_isN (pe_ix ix_tup (pv 0) pe_int (fun _ _ => rfl)) pe_non (nomark _)) pe_str (pe_op op_add_str (pe_op op_add_str (pe_call G (hr.mono (by omega)) (by rfl) T.g_law_text T.f_law_text.kp T.n_law_text .nil pass0 (pa_cons (pe_ix ix_tup (pe_ix ix_tup (pv 0) pe_int (fun _ _ => rfl)) pe_int (fun _ _ => rfl)) pa_nil)) pe_str) (pe_call G (hr.mono (by omega)) (by rfl) T.g_law_text T.f_law_text.kp T.n_law_text .nil pass0 (pa_cons (pe_ix ix_tup (pe_ix ix_tup (pv 0) pe_int (fun _ _ => rfl)) pe_int (fun _ _ => rfl)) pa_nil)))))
      (pss_cons (ps_setLc (i := 2) (own := [("pair", 3)]) (g := (gName 3)) (tt := tYes) (by rfl) nd rfl rfl (sw_true rfl rfl rfl (by decide +kernel)) (pi_tup (pe_ix ix_tup (pv 0) pe_int (fun _ _ => rfl))) (blkOk_by (own := [("pair", 3)]) (N := N__law_fact_text) (sc := defScope s__law_fact_text) (by decide +kernel)) (fun _ _ _ _ _ => pg_name (i := 3) nd rfl (.inl rfl)) (fun _ _ _ _ _ => pts_nil) (fun _ _ _ _ _ => (pe_op (r := rAddS) op_add_str (pe_op (r := rAddS) op_add_str (pe_call G (hr.mono (by omega)) (by rfl) T.g_law_text T.f_law_text.kp T.n_law_text .nil pass0 (pa_cons (pe_ix (r := rIxT K) ix_tup (pv 3) pe_int (fun _ _ => rfl)) pa_nil)) pe_str) (pe_call G (hr.mono (by omega)) (by rfl) T.g_law_text T.f_law_text.kp T.n_law_text .nil pass0 (pa_cons (pe_ix (r := rIxT K) ix_tup (pv 3) pe_int (fun _ _ => rfl)) pa_nil)))))
      (pss_one (ps_ret (pe_ifExp (pt_cmpR (op_eqNil hr.units) (pv 2) (pe_lst pa_nil) (nomark _)) (pv 1) (pe_op op_add_str (pe_op op_add_str (pe_bm PySem.F.plainAttrs_str PySem.F.slot_str_join PySem.F.type_str_join mt_join pe_str (pa_cons (pv 2) pa_nil)) pe_str) (pv 1))))))), ?_⟩
  obtain ⟨f, t, us, v, rfl, hf, ht, hus, hv⟩ := dx_fact dx
  have lu := hus.length
  have lm := fa.len
  have six : ∀ {a : PyData}, Tm rs 3 a → formedD a = true ∧ a.depth ≤ 6 ∧ (tx a).length ≤ 20000 := fun {a} h => ⟨h.fm, Nat.le_trans h.dp (by decide), tx_six h.fm (Nat.le_trans h.dp (by decide))⟩
  have e1 : ("=" : Str).length = 1 := rfl
  have sz : 1000000 ≤ sizeLine := by decide
  refine ⟨fun σ' G => Same H G ∧ σ' = [some (.ref f), some (.str (endS c)), none, none], ?_, ?_⟩
  · refine ⟨_, rfl, f, _, 1, v, rfl, rfl, SqT.of hf, atI_nat (j := 1) rfl, rfl, _, rfl, ?_⟩
    by_cases ev : v = .non
    · have ee := (dx_nil hv).mpr ev
      subst ee
      rw [decide_eq_true ev]
      exact iteT ⟨Same.refl _, rfl⟩
    · have ee : c ≠ .none := fun z => ev ((dx_nil hv).mp z)
      rw [decide_eq_false ev]
      obtain ⟨a, b, rfl, ha, hb, _⟩ := (fa.c.elim (fun z => absurd z ee) id).ex
      obtain ⟨p, u0, v0, rfl, hp, du, dv⟩ := dx_couple hv
      obtain ⟨a1, a2, a3⟩ := six ha
      obtain ⟨b1, b2, b3⟩ := six hb
      refine iteF ⟨_, rfl, f, _, 1, .ref p, rfl, rfl, SqT.of hf, atI_nat (j := 1) rfl, p, _, 0, u0, rfl, rfl, SqT.of hp, atI_nat (j := 0) rfl, u0, a, rfl, du, a1, a2, by omega, fun H1 s1 => ?_⟩
      refine ⟨_, _, rfl, rfl, by rw [tS_len, e1]; omega, ?_⟩
      refine ⟨_, rfl, f, _, 1, .ref p, rfl, rfl, SqT.of (s1 _ _ hf), atI_nat (j := 1) rfl, p, _, 1, v0, rfl, rfl, SqT.of (s1 _ _ hp), atI_nat (j := 1) rfl, v0, b, rfl, dv.up s1, b1, b2, by omega, fun H2 s2 => ?_⟩
      refine ⟨_, _, rfl, rfl, by rw [lcat, tS_len, tS_len, e1]; omega, s1.trans s2, ?_⟩
      show [some (V.ref f), some (V.str _), none, none] = _
      rw [show endS (.tuple [a, b]) = (tS (tx a) ++ "=") ++ tS (tx b) from pr_text a b]
  rintro σ' G1 ⟨sG, rfl⟩
  have hf2 := sG _ _ hf
  have ht2 := sG _ _ ht
  have hus2 := hus.up sG
  refine ⟨_, rfl, f, _, 0, .ref t, rfl, rfl, SqT.of hf2, atI_nat (j := 0) rfl, t, rfl, ⟨_, SqT.of ht2⟩, fun D nD => ?_⟩
  refine lc_tup (K := K) (a := t) (xs := us) (fun i G2 => Same G1 G2 ∧ G2 D = some (.lst (((L.take i).map prS).map V.str))) ⟨same_put nD, by rw [List.take_zero]; exact upd_same⟩ (fun i G2 _ h => SqT.of (h.1 _ _ ht2)) ?_ ?_
  · rintro i y G2 hi ⟨s2, e2⟩
    have lt : i < L.length := by
      rw [← lu]
      exact (List.getElem?_eq_some_iff.mp hi).1
    have gd := List.getElem?_eq_getElem lt
    obtain ⟨v2, hv2, dv2⟩ := hus2.get gd
    rw [hi] at hv2
    cases hv2
    obtain ⟨a, b, eab, ha, hb, _⟩ := (fa.ps _ (List.getElem_mem lt)).ex
    rw [eab] at dv2 gd
    obtain ⟨p, u0, v0, rfl, hp, du, dv⟩ := dx_couple (dv2.up s2)
    obtain ⟨a1, a2, a3⟩ := six ha
    obtain ⟨b1, b2, b3⟩ := six hb
    refine ⟨rfl, (iteT (B := False) ?_ : if true = true then _ else False)⟩
    refine ⟨_, rfl, p, _, 0, u0, rfl, rfl, SqT.of hp, atI_nat (j := 0) rfl, u0, a, rfl, du, a1, a2, by omega, fun H1 s1 => ?_⟩
    refine ⟨_, _, rfl, rfl, by rw [tS_len, e1]; omega, ?_⟩
    refine ⟨_, rfl, p, _, 1, v0, rfl, rfl, SqT.of (s1 _ _ hp), atI_nat (j := 1) rfl, v0, b, rfl, dv.up s1, b1, b2, by omega, fun H2 s3 => ?_⟩
    refine ⟨_, _, rfl, rfl, by rw [lcat, tS_len, tS_len, e1]; omega, _, s3 _ _ (s1 _ _ e2), ?_, fun o ob ho => ?_, ?_⟩
    · rw [List.length_map, List.length_map, List.length_take]
      exact small1000 (by omega)
    · rw [upd_ne (ne_of_none ho nD)]
      exact s3 _ _ (s1 _ _ (s2 _ _ ho))
    · rw [upd_same, List.take_add_one, gd, List.map_append, List.map_append, ← pr_text]
      rfl
  rintro G2 ⟨s2, e2⟩
  rw [lu, List.take_length] at e2
  refine ⟨_, rfl, Nat.zero_le _, fun l nl => ?_⟩
  have sl := same_put (o := .lst []) nl
  refine ⟨D, l, (L.map prS).map V.str, rfl, rfl, SqL.of (sl _ _ e2), SqL.of upd_same, _, rfl, ?_⟩
  have sA := sG.trans (s2.trans sl)
  cases hL : L with
  | nil =>
    subst hL
    exact iteT ⟨_, rfl, q _ sA⟩
  | cons z L' =>
    have eF : ftS L c = (Txt.join " & " (L.map prS) ++ " => ") ++ endS c := if_neg (by rw [hL]; simp)
    rw [eF] at q
    rw [← hL]
    rw [show ((L.map prS).map V.str).isEmpty = false by rw [hL]; rfl]
    have e3 : (" & " : Str).length = 3 := rfl
    have e4 : (" => " : Str).length = 4 := rfl
    have bp : ∀ d : PyData, Pr rs 3 d → (prS d).length ≤ 40001 := fun d hd => by
      obtain ⟨a, b, rfl, ha, hb, _⟩ := hd.ex
      have := (six ha).2.2
      have := (six hb).2.2
      rw [pr_text, lcat, lcat, tS_len, tS_len, e1]
      omega
    have ls : ∀ l : List PyData, (∀ d, d ∈ l → Pr rs 3 d) → ((l.map prS).map (·.length)).sum ≤ l.length * 40001 := fun l => by
      induction l with
      | nil => intro _; simp
      | cons d l ih =>
        intro h
        have := ih fun e he => h e (List.mem_cons_of_mem _ he)
        have := bp d (h d List.mem_cons_self)
        rw [List.map_cons, List.map_cons, List.sum_cons, List.length_cons, Nat.add_mul]
        omega
    have l1 := ls L fa.ps
    have l2 : L.length * 40001 ≤ 100 * 40001 := Nat.mul_le_mul_right _ (by omega)
    have lc : (endS c).length ≤ 40001 := by
      rcases fa.c with ee | hc
      · rw [ee]; decide
      · obtain ⟨a, b, rfl, _⟩ := hc.ex
        exact bp _ hc
    have lj := join_len " & " (L.map prS)
    rw [List.length_map, e3] at lj
    have sz2 : 5000000 ≤ sizeLine := by decide
    exact iteF ⟨rfl, _, rfl, _, D, L.map prS, rfl, rfl, .inl (SqL.of (sl _ _ e2)), by rw [List.length_map, e3]; omega, _, _, rfl, rfl, by rw [e4]; omega, _, rfl, _, _, rfl, rfl, by rw [lcat, e4]; omega, q _ sA⟩
end
end K13
/-! read_couple. -/
namespace K13
open PySem PySem.Spec PyProof.Rows L2 Kx
theorem sjoin_cons (y x z : Str) (r : List Str) : Str.join y (x :: z :: r) = (x ++ y) ++ Str.join y (z :: r) := rfl
theorem piece_le {y : Str} : ∀ {ps : List Str} {p : Str}, p ∈ ps → p.length ≤ (Str.join y ps).length
  | [x], p, h => by
    rw [List.mem_singleton.mp h]
    exact Nat.le_refl _
  | x :: z :: r, p, h => by
    rw [sjoin_cons, lcat, lcat]
    rcases List.mem_cons.mp h with rfl | h
    · omega
    · have := piece_le (y := y) h
      omega
theorem split_le {x y p : Str} (h : p ∈ Txt.split x y) : p.length ≤ x.length := by
  have := piece_le (y := y) h
  rwa [StrLaws.join_split] at this
def coupD (y : Str) : Option PyData := match Txt.split y "=" with
  | [a, b] => (toldD a).bind fun d => (toldD b).map fun e => PyData.tuple [d, e]
  | _ => none
section
variable {P : Program} {w : World} {K : PySem.W.Frag} {mg : Str → Option Value} {base : Heap}
def spRc (K : PySem.W.Frag) (C : Addr) : Sp := fun vs H Q E => ∃ (y : Str), vs = [.str y] ∧ y.length ≤ 2000 ∧ (coupD y = none → ∀ H', Same H H' → E (.ref C) none H') ∧ ∀ d, coupD y = some d → ∀ v H', Same H H' → Dx K H' v d → Q v H'
theorem ok_rc (T : Tx K mg) : FnOk P w K mg base (L2.CX P w) 7 T.aread_couple T.dread_couple ["text"] (spRc K T.CParseError) := by
  have nd := sc_read_couple.nd
  have GT := ok_rt (P := P) (w := w) (base := base) T
  refine T.fread_couple.okX sc_read_couple (fun vs H Q E h => ?_) (fun cdv A outer s H vs Q E hr h => ?_)
  · obtain ⟨y, rfl, _⟩ := h
    rfl
  obtain ⟨y, rfl, ly, q0, q1⟩ := h
  refine ⟨_, (pss_cons (ps_set (i := 1) nd rfl (.inl rfl) (pe_bm PySem.F.plainAttrs_str PySem.F.slot_str_split PySem.F.type_str_split mt_split (pv 0) (pa_cons pe_str pa_nil)))
      (pss_cons (ps_if (pt_cmpR op_ne (pe_callB call_len_seq (by rfl) T.b_len (by decide +kernel) (pa_cons (pv 1) pa_nil)) pe_int (nomark _)) (pss_one (ps_raise rfl (takes_of rfl rfl rfl rfl) (pmk_own PySem.F.excBase_ValueError T.xParseError T.gParseError T.kParseError (raises_own T.bParseError T.tParseError) (by rfl)))) pss_nil)
      (pss_one (ps_ret (pe_tup (pa_cons (pe_call GT (hr.mono (by omega)) (by rfl) T.gread_term T.fread_term.kp T.nread_term .nil (passes_call (takes_of rfl rfl rfl rfl) (fun _ _ _ _ h => h)) (pa_cons (pe_ix ix_list (pv 1) pe_int (fun _ _ => rfl)) pa_nil)) (pa_cons (pe_call GT (hr.mono (by omega)) (by rfl) T.gread_term T.fread_term.kp T.nread_term .nil (passes_call (takes_of rfl rfl rfl rfl) (fun _ _ _ _ h => h)) (pa_cons (pe_ix ix_list (pv 1) pe_int (fun _ _ => rfl)) pa_nil)) pa_nil))))))), ?_⟩
  have sz : 5000 ≤ sizeLine := by decide
  refine ⟨_, rfl, rfl, y, "=", rfl, rfl, rfl, by omega, fun p np => ?_⟩
  have s1 := same_put (o := .lst ((Txt.split y "=").map V.str)) np
  have hp : (upd H p (.lst ((Txt.split y "=").map V.str))) p = some (.lst ((Txt.split y "=").map V.str)) := upd_same
  have lp : ∀ z, z ∈ Txt.split y "=" → z.length ≤ 2000 := fun z hz => Nat.le_trans (split_le hz) ly
  unfold coupD at q0 q1
  generalize Txt.split y "=" = ps at s1 hp lp q0 q1 ⊢
  generalize upd H p (.lst (ps.map V.str)) = H1 at s1 hp ⊢
  refine ⟨_, rfl, p, _, rfl, .inl (SqL.of hp), rfl, _, rfl, ?_⟩
  have bad : (∀ a b, ps ≠ [a, b]) → (!decide (V.int (((ps.map V.str).length : Nat) : Int) = V.int 2)) = true := fun h => by
    rw [Bool.not_eq_true', decide_eq_false_iff_not]
    intro z
    have z := V.int.inj z
    rw [List.length_map] at z
    match ps, h, z with
    | [], _, z => simp at z
    | [_], _, z => simp at z
    | [a, b], h, _ => exact h a b rfl
    | _ :: _ :: _ :: _, _, z => simp at z; omega
  by_cases e : ∃ a b, ps = [a, b]
  · obtain ⟨a, b, rfl⟩ := e
    refine iteF ?_
    have la := lp a (by simp)
    have lb := lp b (by simp)
    refine ⟨_, rfl, p, _, 0, .str a, rfl, rfl, SqL.of hp, atI_nat (j := 0) rfl, .str a, .str a, rfl, .str a, fun z ez => by cases ez; exact la, fun ea H2 s2 => ?_, fun d ed v H2 s2 dv => ?_⟩
    · have ea : toldD a = none := ea
      exact q0 (by simp [ea]) H2 (s1.trans s2)
    · have ed : toldD a = some d := ed
      refine ⟨_, rfl, p, _, 1, .str b, rfl, rfl, SqL.of (s2 _ _ hp), atI_nat (j := 1) rfl, .str b, .str b, rfl, .str b, fun z ez => by cases ez; exact lb, fun eb H3 s3 => ?_, fun e ee u H3 s3 du => ⟨by show 2 ≤ sizeLine; omega, fun t nt => ?_⟩⟩
      · have eb : toldD b = none := eb
        exact q0 (by simp [ed, eb]) H3 (s1.trans (s2.trans s3))
      · have ee : toldD b = some e := ee
        have st := same_put (o := .tup [v, u]) nt
        exact q1 (.tuple [d, e]) (by simp [ed, ee]) _ _ (s1.trans (s2.trans (s3.trans st))) (.tup upd_same (.cons (dv.up (s3.trans st)) (.cons (du.up st) .nil)))
  · rw [bad fun a b h => e ⟨a, b, h⟩]
    refine iteT (q0 ?_ H1 s1)
    match ps, e with
    | [], _ => rfl
    | [_], _ => rfl
    | [a, b], e => exact absurd ⟨a, b, rfl⟩ e
    | _ :: _ :: _ :: _, _ => rfl
end
end K13
/-! What read_fact reads: by splits. -/
namespace K13
open PySem PySem.Spec PyProof.Rows L2 Kx
mutual
theorem tree_formed : ∀ d : PyData, formedD d = true → treeD d = true
  | .tuple (.str x :: ds), h => by
    rw [formedD, Bool.and_eq_true] at h
    exact trees_formed ds h.2
  | .tuple (.none :: ds), h => by simp [formedD, nameD] at h
  | .tuple (.bool _ :: ds), h => by simp [formedD, nameD] at h
  | .tuple (.int _ :: ds), h => by simp [formedD, nameD] at h
  | .tuple (.list _ :: ds), h => by simp [formedD, nameD] at h
  | .tuple (.tuple _ :: ds), h => by simp [formedD, nameD] at h
  | .tuple (.dict _ :: ds), h => by simp [formedD, nameD] at h
  | .tuple [], h => by cases h
  | .none, h | .bool _, h | .int _, h | .str _, h | .list _, h | .dict _, h => by cases h
theorem trees_formed : ∀ ds : List PyData, formedAll ds = true → treeAll ds = true
  | [], _ => rfl
  | d :: ds, h => by
    rw [formedAll, Bool.and_eq_true] at h
    rw [treeAll, tree_formed d h.1, trees_formed ds h.2]
    rfl
end
/-- how often c stands in a text -/
def cnt (c : Nat) (x : Str) : Nat := x.cps.toList.count c
theorem cnt_app (c : Nat) (x y : Str) : cnt c (x ++ y) = cnt c x + cnt c y := by
  unfold cnt
  rw [str_app, List.count_append]
theorem cnt_join (c : Nat) (y : Str) (h : 1 ≤ cnt c y) : ∀ ps : List Str, ps.length ≤ cnt c (Str.join y ps) + 1 ∧ (ps.map (cnt c)).sum ≤ cnt c (Str.join y ps)
  | [] => ⟨by simp, by simp⟩
  | [x] => by
    show _ ≤ cnt c x + 1 ∧ _ ≤ cnt c x
    exact ⟨by simp, by simp⟩
  | x :: z :: r => by
    obtain ⟨i1, i2⟩ := cnt_join c y h (z :: r)
    rw [sjoin_cons, cnt_app, cnt_app]
    simp only [List.length_cons, List.map_cons, List.sum_cons] at i1 i2 ⊢
    omega
theorem cnt_split {c : Nat} {y : Str} (h : 1 ≤ cnt c y) (x : Str) : (Txt.split x y).length ≤ cnt c x + 1 ∧ ((Txt.split x y).map (cnt c)).sum ≤ cnt c x := by
  have := cnt_join c y h (Txt.split x y)
  rwa [StrLaws.join_split] at this
theorem len_join (y : Str) : ∀ ps : List Str, (ps.map (·.length)).sum ≤ (Str.join y ps).length
  | [] => by simp
  | [x] => by
    show _ ≤ x.length
    simp
  | x :: z :: r => by
    have ih := len_join y (z :: r)
    rw [sjoin_cons, lcat, lcat]
    simp only [List.map_cons, List.sum_cons] at ih ⊢
    omega
theorem len_split (x y : Str) : ((Txt.split x y).map (·.length)).sum ≤ x.length := by
  have := len_join y (Txt.split x y)
  rwa [StrLaws.join_split] at this
theorem split_ne (x y : Str) : Txt.split x y ≠ [] := by
  intro h
  unfold Txt.split at h
  split at h
  · cases h
  · split at h
    · cases h
    · rw [StrLaws.partsBetween_eq] at h
      obtain ⟨p, r, e⟩ := StrLaws.partsFrom_ne x y.length 0 _
      rw [e] at h
      cases h
end K13
/-! The fact with a text. -/
namespace K13
open PySem PySem.Spec PyProof.Rows L2 Kx
def coups : List Str → Option (List PyData)
  | [] => some []
  | x :: r => (coupD x).bind fun d => (coups r).map (d :: ·)
theorem coups_app : ∀ (a b : List Str), coups (a ++ b) = (coups a).bind fun ds => (coups b).map (ds ++ ·)
  | [], b => by
    show coups b = (coups b).map ([] ++ ·)
    cases coups b <;> rfl
  | x :: a, b => by
    rw [List.cons_append, coups, coups, coups_app a b]
    cases coupD x with
    | none => rfl
    | some d =>
      cases coups a with
      | none => rfl
      | some ds => cases coups b <;> rfl
theorem coups_snoc {a : List Str} {ds : List PyData} (h : coups a = some ds) {x : Str} {d : PyData} (e : coupD x = some d) : coups (a ++ [x]) = some (ds ++ [d]) := by
  rw [coups_app, h]
  simp [coups, e]
theorem coups_none : ∀ {l : List Str} {x : Str}, x ∈ l → coupD x = none → coups l = none
  | z :: l, x, h, e => by
    rw [coups]
    rcases List.mem_cons.mp h with rfl | h
    · rw [e]; rfl
    · rw [coups_none h e]
      cases coupD z <;> rfl
theorem coups_cons {x : Str} {l : List Str} {ds : List PyData} (h : coups (x :: l) = some ds) : ∃ d r, ds = d :: r ∧ coupD x = some d ∧ coups l = some r := by
  rw [coups] at h
  cases e : coupD x with
  | none => rw [e] at h; cases h
  | some d =>
    cases e2 : coups l with
    | none => rw [e, e2] at h; cases h
    | some r => rw [e, e2] at h; cases h; exact ⟨d, r, rfl, rfl, rfl⟩
theorem coups_len : ∀ {l : List Str} {ds : List PyData}, coups l = some ds → ds.length = l.length
  | [], ds, h => by cases h; rfl
  | x :: l, ds, h => by
    obtain ⟨d, r, rfl, _, e⟩ := coups_cons h
    rw [List.length_cons, List.length_cons, coups_len e]
theorem told_bound {x : Str} {d : PyData} (h : toldD x = some d) (l : x.length ≤ 2000) : szD d ≤ 2 * x.length + 2 ∧ shortD d = true ∧ formedD d = true := by
  obtain ⟨e, t⟩ := (told_iff x d).mp h
  unfold termD at t
  rw [Bool.and_eq_true] at t
  have b := tree_bound d (tree_formed d t.1)
  have : x.length = (tx d).length := by rw [e, tS_len]
  exact ⟨by omega, b.2 (by omega), t.1⟩
theorem coup_ex {x : Str} {d : PyData} (h : coupD x = some d) : ∃ a b u v, Txt.split x "=" = [a, b] ∧ toldD a = some u ∧ toldD b = some v ∧ d = .tuple [u, v] := by
  unfold coupD at h
  generalize Txt.split x "=" = ps at h
  match ps, h with
  | [a, b], h =>
    cases ea : toldD a with
    | none => simp [ea] at h
    | some u =>
      cases eb : toldD b with
      | none => simp [ea, eb] at h
      | some v =>
        simp [ea, eb] at h
        exact ⟨a, b, u, v, rfl, ea, eb, h.symm⟩
theorem coup_bound {x : Str} {d : PyData} (h : coupD x = some d) (l : x.length ≤ 2000) : szD d ≤ 2 * x.length + 5 ∧ shortD d = true ∧ pureD d = true := by
  obtain ⟨a, b, u, v, e, ea, eb, rfl⟩ := coup_ex h
  have ls := len_split x "="
  rw [e] at ls
  simp only [List.map_cons, List.map_nil, List.sum_cons, List.sum_nil] at ls
  obtain ⟨a1, a2, a3⟩ := told_bound ea (by omega)
  obtain ⟨b1, b2, b3⟩ := told_bound eb (by omega)
  refine ⟨by simp only [szD, szAll]; omega, by simp [shortD, shortAll, a2, b2], pure_two a3 b3⟩
theorem coups_bound : ∀ {l : List Str} {ds : List PyData}, coups l = some ds → (l.map (·.length)).sum ≤ 2000 → szAll ds ≤ 2 * (l.map (·.length)).sum + 5 * l.length ∧ shortAll ds = true ∧ pureAll ds = true
  | [], ds, h, _ => by cases h; exact ⟨Nat.zero_le _, rfl, rfl⟩
  | x :: l, ds, h, s => by
    obtain ⟨d, r, rfl, e, e2⟩ := coups_cons h
    rw [List.map_cons, List.sum_cons] at s ⊢
    obtain ⟨a1, a2, a3⟩ := coup_bound e (by omega)
    obtain ⟨b1, b2, b3⟩ := coups_bound e2 (by omega)
    rw [szAll, shortAll, pureAll, a2, a3, b2, b3, List.length_cons]
    exact ⟨by omega, rfl, rfl⟩
/-- the words of the parts -/
def wordsP (ps : List Str) : List Str := ps.flatMap fun p => Txt.split p " & "
theorem wordsP_snoc (ps : List Str) (p : Str) : wordsP (ps ++ [p]) = wordsP ps ++ Txt.split p " & " := by
  simp [wordsP]
theorem wordsP_sum : ∀ ps : List Str, ((wordsP ps).map (·.length)).sum ≤ (ps.map (·.length)).sum
  | [] => Nat.le_refl _
  | p :: ps => by
    have ih := wordsP_sum ps
    have := len_split p " & "
    rw [show wordsP (p :: ps) = Txt.split p " & " ++ wordsP ps from List.flatMap_cons, List.map_append, List.sum_append, List.map_cons, List.sum_cons]
    omega
theorem wordsP_len : ∀ ps : List Str, (wordsP ps).length ≤ (ps.map (cnt 38)).sum + ps.length
  | [] => Nat.le_refl _
  | p :: ps => by
    have ih := wordsP_len ps
    have := (cnt_split (c := 38) (y := " & ") (by decide) p).1
    rw [show wordsP (p :: ps) = Txt.split p " & " ++ wordsP ps from List.flatMap_cons, List.length_append, List.map_cons, List.sum_cons, List.length_cons]
    omega
theorem cnt_sum (c : Nat) (y : Str) : ∀ ps : List Str, (ps.map (cnt c)).sum ≤ cnt c (Str.join y ps)
  | [] => by simp
  | [x] => by
    show _ ≤ cnt c x
    simp
  | x :: z :: r => by
    have i2 := cnt_sum c y (z :: r)
    rw [sjoin_cons, cnt_app, cnt_app]
    simp only [List.map_cons, List.sum_cons] at i2 ⊢
    omega
def conclD (x : Str) : Option PyData := if x = "never" then some .none else coupD x
def factP (ps : List Str) : Option PyData := (conclD (ps.getLastD Str.empty)).bind fun e => (coups (wordsP ps.dropLast)).bind fun ds =>
  if ps.length ≤ 2 ∧ factD (.tuple [.tuple ds, e]) = true then some (.tuple [.tuple ds, e]) else none
def factR (x : Str) : Option PyData := factP (Txt.split x " => ")
def toldF : PyData → Option PyData
  | .str y => factR y
  | _ => none
theorem parts_ex (y : Str) : ∃ ini last, Txt.split y " => " = ini ++ [last] := by
  rcases List.eq_nil_or_concat (Txt.split y " => ") with h | ⟨i, l, h⟩
  · exact absurd h (split_ne _ _)
  · exact ⟨i, l, by rw [h, List.concat_eq_append]⟩
theorem factP_snoc (ini : List Str) (last : Str) : factP (ini ++ [last]) = (conclD last).bind fun e => (coups (wordsP ini)).bind fun ds =>
    if ini.length + 1 ≤ 2 ∧ factD (.tuple [.tuple ds, e]) = true then some (.tuple [.tuple ds, e]) else none := by
  unfold factP
  rw [List.dropLast_concat, List.length_append, List.length_singleton, show (ini ++ [last]).getLastD Str.empty = last by simp [List.getLastD_eq_getLast?]]
theorem parts_sz {y : Str} {ini : List Str} {last : Str} (e : Txt.split y " => " = ini ++ [last]) (ly : y.length ≤ 2000) (cy : cnt 38 y + cnt 62 y ≤ 90) :
    (ini.map (·.length)).sum + last.length ≤ 2000 ∧ (ini.map (cnt 38)).sum + ini.length ≤ 90 := by
  have h1 := len_split y " => "
  have h2 := (cnt_split (c := 62) (y := " => ") (by decide) y).1
  have h3 := cnt_sum 38 " => " (Txt.split y " => ")
  rw [StrLaws.join_split] at h3
  rw [e] at h1 h2 h3
  rw [List.map_append, List.sum_append] at h1 h3
  simp only [List.map_cons, List.map_nil, List.sum_cons, List.sum_nil, List.length_append, List.length_singleton] at h1 h2 h3
  omega
theorem fact_sz {y : Str} {ini : List Str} {last : Str} (e : Txt.split y " => " = ini ++ [last]) (ly : y.length ≤ 2000) (cy : cnt 38 y + cnt 62 y ≤ 90) {c : PyData} {ds : List PyData} (hc : conclD last = some c) (hd : coups (wordsP ini) = some ds) :
    shortD (.tuple [.tuple ds, c]) = true ∧ szD (.tuple [.tuple ds, c]) ≤ 10000 ∧ ds.length ≤ 90 ∧ pureAll ds = true := by
  obtain ⟨h1, h2⟩ := parts_sz e ly cy
  have ws := wordsP_sum ini
  have wl := wordsP_len ini
  obtain ⟨b1, b2, b3⟩ := coups_bound hd (by omega)
  have bl := coups_len hd
  have hc : szD c ≤ 4005 ∧ shortD c = true := by
    unfold conclD at hc
    split at hc
    · cases hc
      exact ⟨by decide, rfl⟩
    · have := coup_bound hc (by omega)
      exact ⟨by omega, this.2.1⟩
  refine ⟨by simp [shortD, shortAll, b2, hc.2], by simp only [szD, szAll]; omega, by omega, b3⟩
end K13
/-! The law's own reading of a term. -/
namespace K13
open PySem PySem.Spec PyProof.Rows L2 Kx
/-- s at the end of the last piece -/
def apL (ps : List (List Nat)) (s : List Nat) : List (List Nat) := ps.dropLast ++ [ps.getLastD [] ++ s]
def dpt (d : Int) (c : Nat) : Int := d + (if c = 40 then 1 else 0) - (if c = 41 then 1 else 0)
def scan : List Nat → Int → List (List Nat) → Option (Int × List (List Nat))
  | [], d, ps => some (d, ps)
  | c :: l, d, ps => if dpt d c < 0 then none else if c = 44 ∧ dpt d c = 0 then scan l (dpt d c) (ps ++ [[]]) else scan l (dpt d c) (apL ps [c])
theorem apL_snoc (r : List (List Nat)) (p s : List Nat) : apL (r ++ [p]) s = r ++ [p ++ s] := by
  unfold apL
  rw [List.dropLast_concat]
  simp [List.getLastD_eq_getLast?]
theorem apL_nil {ps : List (List Nat)} (h : ps ≠ []) : apL ps [] = ps := by
  rcases List.eq_nil_or_concat ps with e | ⟨r, p, e⟩
  · exact absurd e h
  · rw [e, List.concat_eq_append, apL_snoc, List.append_nil]
theorem apL_app {ps : List (List Nat)} (h : ps ≠ []) (s t : List Nat) : apL (apL ps s) t = apL ps (s ++ t) := by
  rcases List.eq_nil_or_concat ps with e | ⟨r, p, e⟩
  · exact absurd e h
  · rw [e, List.concat_eq_append, apL_snoc, apL_snoc, apL_snoc, List.append_assoc]
theorem apL_ne (ps : List (List Nat)) (s : List Nat) : apL ps s ≠ [] := by
  unfold apL
  simp
/-- pieces with commas between -/
def jn : List (List Nat) → List Nat
  | [] => []
  | [p] => p
  | p :: q :: r => p ++ 44 :: jn (q :: r)
theorem jn_snoc : ∀ (r : List (List Nat)) (p s : List Nat), jn (r ++ [p ++ s]) = jn (r ++ [p]) ++ s
  | [], p, s => rfl
  | [q], p, s => by simp [jn]
  | q :: z :: r, p, s => by
    have := jn_snoc (z :: r) p s
    rw [List.cons_append, List.cons_append, jn, List.cons_append, List.cons_append, jn]
    rw [List.cons_append, List.cons_append] at this
    rw [this]
    simp
theorem jn_new : ∀ (r : List (List Nat)), r ≠ [] → jn (r ++ [[]]) = jn r ++ [44]
  | [p], _ => by simp [jn]
  | p :: z :: r, _ => by
    have := jn_new (z :: r) (by simp)
    rw [List.cons_append, List.cons_append, jn, jn]
    rw [List.cons_append] at this
    rw [this]
    simp
theorem scan_jn : ∀ (l : List Nat) (d : Int) (ps : List (List Nat)) (e : Int) (qs : List (List Nat)), ps ≠ [] → scan l d ps = some (e, qs) → jn qs = jn ps ++ l ∧ qs ≠ []
  | [], d, ps, e, qs, ne, h => by
    cases h
    exact ⟨by simp, ne⟩
  | c :: l, d, ps, e, qs, ne, h => by
    rw [scan] at h
    split at h
    · cases h
    · split at h
      · rename_i h1 h2
        obtain ⟨i1, i2⟩ := scan_jn l _ _ e qs (by simp) h
        refine ⟨?_, i2⟩
        rw [i1, jn_new ps ne, h2.1]
        simp
      · obtain ⟨i1, i2⟩ := scan_jn l _ _ e qs (apL_ne _ _) h
        refine ⟨?_, i2⟩
        rcases List.eq_nil_or_concat ps with z | ⟨r, p, z⟩
        · exact absurd z ne
        · rw [i1, z, List.concat_eq_append, apL_snoc, jn_snoc]
          simp
theorem scan_len : ∀ (l : List Nat) (d : Int) (ps : List (List Nat)) (e : Int) (qs : List (List Nat)), scan l d ps = some (e, qs) → qs.length ≤ ps.length + 1 + l.length
  | [], d, ps, e, qs, h => by
    cases h
    simp
  | c :: l, d, ps, e, qs, h => by
    rw [scan] at h
    split at h
    · cases h
    · split at h
      · have := scan_len l _ _ e qs h
        simp only [List.length_append, List.length_cons, List.length_nil] at *
        omega
      · have := scan_len l _ _ e qs h
        have : (apL ps [c]).length ≤ ps.length + 1 := by unfold apL; simp
        simp only [List.length_cons] at *
        omega
end K13
/-! The law's own reading of a term is the reading. -/
namespace K13
open PySem PySem.Spec PyProof.Rows L2 Kx
theorem let_ne {c : Nat} (h : letter c = true) : c ≠ 40 ∧ c ≠ 41 ∧ c ≠ 44 := by
  simp only [letter, Bool.and_eq_true, decide_eq_true_eq] at h
  omega
theorem scan_keep {c : Nat} {l : List Nat} {k k' : Int} {ps : List (List Nat)} (e : dpt k c = k') (h : 0 ≤ k') (n : ¬ (c = 44 ∧ k' = 0)) : scan (c :: l) k ps = scan l k' (apL ps [c]) := by
  rw [scan, e, if_neg (by omega), if_neg n]
theorem scan_name : ∀ (w : List Nat), (∀ c, c ∈ w → letter c = true) → ∀ (k : Int) (ps : List (List Nat)) (r : List Nat), 0 ≤ k → ps ≠ [] → scan (w ++ r) k ps = scan r k (apL ps w)
  | [], _, k, ps, r, hk, ne => by rw [apL_nil ne]; rfl
  | c :: w, h, k, ps, r, hk, ne => by
    obtain ⟨c1, c2, c3⟩ := let_ne (h c List.mem_cons_self)
    rw [List.cons_append, scan_keep (k' := k) (by unfold dpt; rw [if_neg c1, if_neg c2]; omega) hk (fun z => c3 z.1), scan_name w (fun z hz => h z (List.mem_cons_of_mem _ hz)) k _ r hk (apL_ne _ _), apL_app ne]
    rfl
mutual
theorem scan_tx : ∀ (d : PyData), formedD d = true → ∀ (k : Int) (ps : List (List Nat)) (r : List Nat), 0 ≤ k → ps ≠ [] → scan (tx d ++ r) k ps = scan r k (apL ps (tx d))
  | .none, h => by cases h
  | .bool _, h => by cases h
  | .int _, h => by cases h
  | .str _, h => by cases h
  | .list _, h => by cases h
  | .dict _, h => by cases h
  | .tuple [], h => by cases h
  | .tuple (d :: ds), h => by
    simp only [formedD, Bool.and_eq_true] at h
    intro k ps r hk ne
    cases d with
    | str x =>
      have e : tx (.tuple (.str x :: ds)) = x.cps.toList ++ txA ds := rfl
      rw [e, List.append_assoc, scan_name _ (isNm_iff.mp h.1.2).2.2 k ps _ hk ne, scan_txA ds h.2 k _ r hk (apL_ne _ _), apL_app ne]
    | _ => cases h.1.2
theorem scan_txA : ∀ (ds : List PyData), formedAll ds = true → ∀ (k : Int) (ps : List (List Nat)) (r : List Nat), 0 ≤ k → ps ≠ [] → scan (txA ds ++ r) k ps = scan r k (apL ps (txA ds))
  | [], _ => fun k ps r hk ne => by
    rw [show txA [] = [] from rfl, apL_nil ne]
    rfl
  | e :: es, h => fun k ps r hk ne => by
    simp only [formedAll, Bool.and_eq_true] at h
    have e1 : txA (e :: es) = 40 :: (tx e ++ (txM es ++ [41])) := rfl
    rw [e1, List.cons_append, scan_keep (k' := k + 1) (by unfold dpt; rw [if_pos rfl, if_neg (by decide)]; omega) (by omega) (fun z => by cases z.1), List.append_assoc, List.append_assoc,
      scan_tx e h.1 (k + 1) _ _ (by omega) (apL_ne _ _), scan_txM es h.2 (k + 1) _ _ (by omega) (apL_ne _ _), List.singleton_append,
      scan_keep (k' := k) (by unfold dpt; rw [if_neg (by decide), if_pos rfl]; omega) hk (fun z => by cases z.1), apL_app ne, apL_app ne, apL_app ne]
    simp
theorem scan_txM : ∀ (ds : List PyData), formedAll ds = true → ∀ (k : Int) (ps : List (List Nat)) (r : List Nat), 1 ≤ k → ps ≠ [] → scan (txM ds ++ r) k ps = scan r k (apL ps (txM ds))
  | [], _ => fun k ps r hk ne => by
    rw [show txM [] = [] from rfl, apL_nil ne]
    rfl
  | e :: es, h => fun k ps r hk ne => by
    simp only [formedAll, Bool.and_eq_true] at h
    have e1 : txM (e :: es) = 44 :: (tx e ++ txM es) := rfl
    rw [e1, List.cons_append, scan_keep (k' := k) (by unfold dpt; rw [if_neg (by decide), if_neg (by decide)]; omega) (by omega) (fun z => by omega), List.append_assoc,
      scan_tx e h.1 k _ _ (by omega) (apL_ne _ _), scan_txM es h.2 k _ _ hk (apL_ne _ _), apL_app ne, apL_app ne]
    simp
end
theorem scan_top : ∀ (es : List PyData), formedAll es = true → ∀ (ps : List (List Nat)), ps ≠ [] → scan (txM es) 0 ps = some (0, ps ++ es.map tx)
  | [], _, ps, _ => by
    rw [show txM [] = [] from rfl]
    simp [scan]
  | e :: es, h, ps, ne => by
    simp only [formedAll, Bool.and_eq_true] at h
    have e1 : txM (e :: es) = 44 :: (tx e ++ txM es) := rfl
    rw [e1, scan, show dpt 0 44 = 0 from rfl, if_neg (by omega), if_pos ⟨rfl, rfl⟩, scan_tx e h.1 0 _ _ (by omega) (by simp), apL_snoc, scan_top es h.2 _ (by simp)]
    simp
def wordL (l : List Nat) : List Nat := l.takeWhile fun c => decide (c ≠ 40)
def wordOk (w : List Nat) : Bool := decide (0 < w.length) && (decide (w.length < 9) && w.all letter)
def innerL (l : List Nat) : List Nat := (l.drop ((wordL l).length + 1)).dropLast
def allS : List (Option PyData) → Option (List PyData)
  | [] => some []
  | o :: r => o.bind fun d => (allS r).map (d :: ·)
def readT : Nat → List Nat → Option PyData
  | 0, _ => none
  | n + 1, l => if wordOk (wordL l) = false then none else if wordL l = l then some (.tuple [.str (tS l)]) else if l.getLast? ≠ some 41 then none else
    (scan (innerL l) 0 [[]]).bind fun r => if r.1 ≠ 0 ∨ 3 < r.2.length then none else (allS (r.2.map fun p => if p = [] then none else readT n p)).map fun ds => .tuple (.str (tS (wordL l)) :: ds)
theorem allS_some : ∀ {os : List (Option PyData)} {ds : List PyData}, allS os = some ds → os = ds.map some
  | [], ds, h => by cases h; rfl
  | o :: os, ds, h => by
    rw [allS] at h
    cases o with
    | none => cases h
    | some d =>
      cases e : allS os with
      | none => simp [e] at h
      | some r =>
        simp [e] at h
        rw [← h, allS_some e]
        rfl
theorem allS_map : ∀ ds : List PyData, allS (ds.map some) = some ds
  | [] => rfl
  | d :: ds => by
    rw [List.map_cons, allS, allS_map ds]
    rfl
theorem ps_tx {f : List Nat → Option PyData} (hf : ∀ p d, f p = some d → p = tx d ∧ formedD d = true) : ∀ {ps : List (List Nat)} {ds : List PyData}, (ps.map fun p => if p = [] then none else f p) = ds.map some → ps = ds.map tx ∧ formedAll ds = true
  | [], [], _ => ⟨rfl, rfl⟩
  | [], _ :: _, h => by cases h
  | _ :: _, [], h => by cases h
  | p :: ps, d :: ds, h => by
    rw [List.map_cons, List.map_cons] at h
    obtain ⟨h1, h2⟩ := List.cons.inj h
    obtain ⟨i1, i2⟩ := ps_tx hf h2
    split at h1
    · cases h1
    · obtain ⟨j1, j2⟩ := hf p d h1
      exact ⟨by rw [List.map_cons, ← j1, ← i1], by rw [formedAll, j2, i2]; rfl⟩
theorem jn_tx : ∀ (e : PyData) (es : List PyData), jn ((e :: es).map tx) = tx e ++ txM es
  | e, [] => by simp [jn, txM]
  | e, z :: es => by
    have := jn_tx z es
    rw [List.map_cons] at this
    rw [List.map_cons, List.map_cons, jn, this]
    rfl
theorem word_rest (l : List Nat) : wordL l = l ∨ ∃ rest, l = wordL l ++ 40 :: rest := by
  induction l with
  | nil => exact .inl rfl
  | cons c l ih =>
    unfold wordL at *
    by_cases e : c = 40
    · subst e
      exact .inr ⟨l, by simp⟩
    · rw [List.takeWhile_cons_of_pos (by simpa using e)]
      rcases ih with ih | ⟨r, ih⟩
      · exact .inl (by rw [ih])
      · exact .inr ⟨r, by rw [List.cons_append, ← ih]⟩
theorem inner_ex {l : List Nat} (h : wordL l ≠ l) (hl : l.getLast? = some 41) : l = wordL l ++ 40 :: (innerL l ++ [41]) := by
  rcases word_rest l with z | ⟨rest, e⟩
  · exact absurd z h
  · have e3 : ∀ w : List Nat, l = w ++ 40 :: rest → l.drop (w.length + 1) = rest := fun w z => by
      have : w ++ 40 :: rest = (w ++ [40]) ++ rest := by simp
      rw [z, this, List.drop_append_of_le_length (by simp)]
      simp
    have e2 := e3 _ e
    unfold innerL
    rw [e2]
    rcases List.eq_nil_or_concat rest with z | ⟨i, c, z⟩
    · rw [e, z] at hl
      simp at hl
    · rw [z, List.concat_eq_append] at e ⊢
      rw [e] at hl
      have : wordL l ++ 40 :: (i ++ [c]) = (wordL l ++ 40 :: i) ++ [c] := by simp
      rw [this, List.getLast?_append] at hl
      simp at hl
      subst hl
      rw [List.dropLast_concat]
      exact e
theorem nm_word {w : List Nat} (h : wordOk w = true) : isNm (tS w) = true := by
  simp only [wordOk, Bool.and_eq_true, decide_eq_true_eq, List.all_eq_true] at h
  refine isNm_iff.mpr ?_
  show 1 ≤ w.toArray.toList.length ∧ w.toArray.toList.length ≤ 8 ∧ ∀ c, c ∈ w.toArray.toList → _
  rw [List.toList_toArray]
  exact ⟨by omega, by omega, h.2.2⟩
theorem read_sound : ∀ (n : Nat) (l : List Nat) (d : PyData), readT n l = some d → l = tx d ∧ formedD d = true
  | 0, l, d, h => by cases h
  | n + 1, l, d, h => by
    rw [readT] at h
    split at h
    · cases h
    rename_i ok
    have ok : wordOk (wordL l) = true := by simpa using ok
    split at h
    · rename_i e
      cases h
      have nm := nm_word ok
      rw [e] at nm
      refine ⟨?_, ?_⟩
      · show l = l.toArray.toList ++ []
        simp
      · show (decide (([] : List PyData).length ≤ 3) && isNm (tS l) && true) = true
        rw [nm]
        rfl
    · rename_i e
      split at h
      · cases h
      rename_i el
      have el : l.getLast? = some 41 := by simpa using el
      cases es : scan (innerL l) 0 [[]] with
      | none => rw [es] at h; cases h
      | some r =>
        rw [es] at h
        have h : (if r.1 ≠ 0 ∨ 3 < r.2.length then none else (allS (r.2.map fun p => if p = [] then none else readT n p)).map fun ds => PyData.tuple (.str (tS (wordL l)) :: ds)) = some d := h
        split at h
        · cases h
        rename_i g
        cases ea : allS (r.2.map fun p => if p = [] then none else readT n p) with
        | none => rw [ea] at h; cases h
        | some ds =>
          rw [ea] at h
          cases h
          obtain ⟨i1, i2⟩ := ps_tx (read_sound n) (allS_some ea)
          obtain ⟨j1, j2⟩ := scan_jn _ _ _ _ _ (by simp) es
          have le := inner_ex e el
          have nm := nm_word ok
          rw [i1] at j1 j2 g
          cases ds with
          | nil => exact absurd rfl j2
          | cons a as =>
            rw [jn_tx] at j1
            have j1 : tx a ++ txM as = innerL l := j1
            refine ⟨?_, ?_⟩
            · show l = (wordL l).toArray.toList ++ 40 :: (tx a ++ (txM as ++ [41]))
              rw [List.toList_toArray, ← List.append_assoc, j1]
              exact le
            · show (decide ((a :: as).length ≤ 3) && isNm (tS (wordL l)) && formedAll (a :: as)) = true
              rw [nm, i2]
              simp at g
              simp
              omega
theorem word_tx {w t : List Nat} (h : ∀ c, c ∈ w → letter c = true) (ht : t = [] ∨ ∃ r, t = 40 :: r) : wordL (w ++ t) = w := by
  unfold wordL
  rw [List.takeWhile_append_of_pos (fun c hc => by simpa using (let_ne (h c hc)).1)]
  rcases ht with rfl | ⟨r, rfl⟩ <;> simp
theorem read_tx : ∀ (n : Nat) (d : PyData), formedD d = true → (tx d).count 40 < n → readT n (tx d) = some d
  | 0, d, _, h => absurd h (Nat.not_lt_zero _)
  | n + 1, d, hd, h => by
    obtain ⟨x, es, rfl, l3, hn, hf⟩ := formed_shape hd
    have e : tx (.tuple (.str x :: es)) = x.cps.toList ++ txA es := rfl
    have nx := isNm_iff.mp hn
    have ew : wordL (tx (.tuple (.str x :: es))) = x.cps.toList := by
      rw [e]
      refine word_tx nx.2.2 ?_
      cases es with
      | nil => exact .inl rfl
      | cons a as => exact .inr ⟨_, rfl⟩
    rw [readT, ew, if_neg (by
      have : wordOk x.cps.toList = true := by
        simp only [wordOk, Bool.and_eq_true, decide_eq_true_eq, List.all_eq_true]
        exact ⟨by omega, by omega, nx.2.2⟩
      rw [this]
      decide)]
    cases es with
    | nil =>
      have e2 : tx (.tuple [.str x]) = x.cps.toList := by
        rw [e]
        show x.cps.toList ++ [] = _
        simp
      rw [if_pos e2.symm, e2, tS_list]
    | cons a as =>
      have e2 : tx (.tuple (.str x :: a :: as)) = x.cps.toList ++ 40 :: (tx a ++ (txM as ++ [41])) := rfl
      simp only [formedAll, Bool.and_eq_true] at hf
      have e3 : innerL (tx (.tuple (.str x :: a :: as))) = tx a ++ txM as := by
        unfold innerL
        rw [ew, e2]
        have : x.cps.toList ++ 40 :: (tx a ++ (txM as ++ [41])) = (x.cps.toList ++ [40]) ++ ((tx a ++ txM as) ++ [41]) := by simp
        rw [this, List.drop_append_of_le_length (by simp)]
        simp
      have e4 : (tx (.tuple (.str x :: a :: as))).getLast? = some 41 := by
        rw [e2]
        have : x.cps.toList ++ 40 :: (tx a ++ (txM as ++ [41])) = (x.cps.toList ++ 40 :: (tx a ++ txM as)) ++ [41] := by simp
        rw [this, List.getLast?_append]
        rfl
      have ne : ¬ x.cps.toList = tx (.tuple (.str x :: a :: as)) := fun z => by
        have := congrArg List.length z
        rw [e2] at this
        simp at this
      rw [if_neg ne, if_neg (by rw [e4]; simp), e3, scan_tx a hf.1 0 _ _ (by omega) (by simp), show apL [[]] (tx a) = [tx a] from rfl, scan_top as hf.2 _ (by simp)]
      have cnt1 : ∀ d, d ∈ a :: as → (tx d).count 40 < n := by
        have cm : ∀ as : List PyData, ∀ d, d ∈ as → (tx d).count 40 ≤ (txM as).count 40 := fun as => by
          induction as with
          | nil => intro d hd; cases hd
          | cons b bs ih =>
            intro d hd
            rw [show txM (b :: bs) = 44 :: (tx b ++ txM bs) from rfl, List.count_cons_of_ne (by decide), List.count_append]
            rcases List.mem_cons.mp hd with rfl | hd
            · omega
            · have := ih d hd
              omega
        intro d hd
        rw [e2, List.count_append, List.count_cons_self, List.count_append, List.count_append] at h
        rcases List.mem_cons.mp hd with rfl | hd
        · omega
        · have := cm as d hd
          omega
      have all : ∀ bs : List PyData, formedAll bs = true → (∀ d, d ∈ bs → (tx d).count 40 < n) → ((bs.map tx).map fun p => if p = [] then none else readT n p) = bs.map some := fun bs => by
        induction bs with
        | nil => intro _ _; rfl
        | cons b bs ih =>
          intro h1 h2
          rw [formedAll, Bool.and_eq_true] at h1
          rw [List.map_cons, List.map_cons, List.map_cons, ih h1.2 fun d hd => h2 d (List.mem_cons_of_mem _ hd), if_neg (fun z => by
            have := tx_pos h1.1
            rw [z] at this
            simp at this), read_tx n b h1.1 (h2 b List.mem_cons_self)]
      show (if (0 : Int) ≠ 0 ∨ 3 < ([tx a] ++ as.map tx).length then none else (allS (([tx a] ++ as.map tx).map fun p => if p = [] then none else readT n p)).map fun ds => PyData.tuple (.str (tS x.cps.toList) :: ds)) = _
      rw [if_neg (by simp at l3 ⊢; omega), show [tx a] ++ as.map tx = (a :: as).map tx from rfl, all (a :: as) (by rw [formedAll, hf.1, hf.2]; rfl) cnt1, allS_map, tS_list]
      rfl
theorem read_iff {n : Nat} {l : List Nat} (h : l.count 40 < n) (d : PyData) : readT n l = some d ↔ l = tx d ∧ formedD d = true :=
  ⟨read_sound n l d, fun ⟨e, f⟩ => by rw [e]; exact read_tx n d f (by rw [← e]; exact h)⟩
end K13
/-! What is due for a text is the fact that it is read as. -/
namespace K13
open PySem PySem.Spec PyProof.Rows L2 Kx
def pairT (n : Nat) (y : Str) : Option PyData := match Txt.split y "=" with
  | [a, b] => (readT n a.cps.toList).bind fun d => (readT n b.cps.toList).bind fun e => if ltR d e then some (PyData.tuple [d, e]) else none
  | _ => none
def conclT (n : Nat) (x : Str) : Option PyData := if x = "never" then some .none else pairT n x
def dueP (n : Nat) (ini : List Str) (last : Str) : Option PyData := (conclT n last).bind fun c => (allS ((wordsP ini).map (pairT n))).bind fun ds =>
  if ini.length + 1 ≤ 2 ∧ (ds.Pairwise ltR ∧ Func (rowsAll (sidesD (ds ++ endOf c)))) then some (.tuple [.tuple ds, c]) else none
theorem allS_iff {os : List (Option PyData)} {ds : List PyData} : allS os = some ds ↔ os = ds.map some :=
  ⟨allS_some, fun e => by rw [e]; exact allS_map ds⟩
theorem coups_allS : ∀ l : List Str, coups l = allS (l.map coupD)
  | [] => rfl
  | x :: l => by
    rw [coups, List.map_cons, allS, coups_allS l]
theorem map_some {α : Type} {f g : α → Option PyData} : ∀ {l : List α} {ds : List PyData}, l.map f = ds.map some → (∀ z, z ∈ l → ∀ d, d ∈ ds → f z = some d → g z = some d) → l.map g = ds.map some
  | [], [], _, _ => rfl
  | [], _ :: _, h, _ => by cases h
  | _ :: _, [], h, _ => by cases h
  | z :: l, d :: ds, h, k => by
    rw [List.map_cons, List.map_cons] at h
    obtain ⟨h1, h2⟩ := List.cons.inj h
    rw [List.map_cons, List.map_cons, k z List.mem_cons_self d List.mem_cons_self h1, map_some h2 fun y hy e he => k y (List.mem_cons_of_mem _ hy) e (List.mem_cons_of_mem _ he)]
theorem map_at {α : Type} {f : α → Option PyData} : ∀ {l : List α} {ds : List PyData}, l.map f = ds.map some → ∀ d, d ∈ ds → ∃ z, z ∈ l ∧ f z = some d
  | [], [], _, d, h => by cases h
  | [], _ :: _, h, _, _ => by cases h
  | _ :: _, [], h, _, _ => by cases h
  | z :: l, d :: ds, h, e, he => by
    rw [List.map_cons, List.map_cons] at h
    obtain ⟨h1, h2⟩ := List.cons.inj h
    rcases List.mem_cons.mp he with rfl | he
    · exact ⟨z, List.mem_cons_self, h1⟩
    · obtain ⟨y, hy, ey⟩ := map_at h2 e he
      exact ⟨y, List.mem_cons_of_mem _ hy, ey⟩
theorem pairT_ex {n : Nat} {x : Str} {d : PyData} (h : pairT n x = some d) : ∃ a b u v, Txt.split x "=" = [a, b] ∧ readT n a.cps.toList = some u ∧ readT n b.cps.toList = some v ∧ ltR u v ∧ d = .tuple [u, v] := by
  unfold pairT at h
  generalize Txt.split x "=" = ps at h
  match ps, h with
  | [a, b], h =>
    cases ea : readT n a.cps.toList with
    | none => simp [ea] at h
    | some u =>
      cases eb : readT n b.cps.toList with
      | none => simp [ea, eb] at h
      | some v =>
        simp [ea, eb] at h
        exact ⟨a, b, u, v, rfl, ea, eb, h.1, h.2.symm⟩
theorem side_len {x a b : Str} (e : Txt.split x "=" = [a, b]) : a.length ≤ x.length ∧ b.length ≤ x.length :=
  ⟨split_le (by rw [e]; simp), split_le (by rw [e]; simp)⟩
theorem side_cnt {x a b : Str} (c : Nat) (e : Txt.split x "=" = [a, b]) : cnt c a ≤ cnt c x ∧ cnt c b ≤ cnt c x := by
  have := cnt_sum c "=" (Txt.split x "=")
  rw [StrLaws.join_split, e] at this
  simp only [List.map_cons, List.map_nil, List.sum_cons, List.sum_nil] at this
  omega
theorem wr_len {d : PyData} {x : Str} (f : formedD d = true) (e : x = tS (tx d)) (l : x.length ≤ 2000) : Wr d := by
  have b := tree_bound d (tree_formed d f)
  have : x.length = (tx d).length := by rw [e, tS_len]
  exact wr_of f (by omega)
theorem told_iff2 (x : Str) (d : PyData) : toldD x = some d ↔ (x.cps.toList = tx d ∧ formedD d = true) ∧ Func (rowsD d) := by
  rw [told_iff, termD, Bool.and_eq_true, decide_eq_true_eq, and_assoc]
  refine and_congr_left fun _ => ⟨fun e => by rw [e]; exact List.toList_toArray .., fun e => by rw [← e, tS_list]⟩
/-- what a couple says, read either way -/
theorem coup_cpl {x : Str} {d : PyData} (h : coupD x = some d) (l : x.length ≤ 2000) : Cpl d := by
  obtain ⟨a, b, u, v, e, ea, eb, rfl⟩ := coup_ex h
  obtain ⟨la, lb⟩ := side_len e
  obtain ⟨⟨e1, f1⟩, _⟩ := (told_iff2 _ _).mp ea
  obtain ⟨⟨e2, f2⟩, _⟩ := (told_iff2 _ _).mp eb
  exact ⟨u, v, rfl, wr_len f1 (by rw [← e1, tS_list]) (by omega), wr_len f2 (by rw [← e2, tS_list]) (by omega)⟩
theorem pairT_cpl {n : Nat} {x : Str} {d : PyData} (h : pairT n x = some d) (l : x.length ≤ 2000) : Cpl d := by
  obtain ⟨a, b, u, v, e, ea, eb, _, rfl⟩ := pairT_ex h
  obtain ⟨la, lb⟩ := side_len e
  obtain ⟨e1, f1⟩ := read_sound _ _ _ ea
  obtain ⟨e2, f2⟩ := read_sound _ _ _ eb
  exact ⟨u, v, rfl, wr_len f1 (by rw [← e1, tS_list]) (by omega), wr_len f2 (by rw [← e2, tS_list]) (by omega)⟩
theorem sides_two {L : List PyData} {a b : PyData} (h : PyData.tuple [a, b] ∈ L) : a ∈ sidesD L ∧ b ∈ sidesD L :=
  ⟨List.mem_flatMap.mpr ⟨_, h, by simp [sidesOf]⟩, List.mem_flatMap.mpr ⟨_, h, by simp [sidesOf]⟩⟩
theorem lt_of {L : List PyData} (C : Cns L) {a b : PyData} (h : PyData.tuple [a, b] ∈ L) : tx a < tx b ↔ ltR a b := by
  obtain ⟨⟨fa, fb⟩, ma, mb⟩ := C.side (.inl h)
  exact tx_lt fa fb (C.two ma mb)
/-- in a consistent list, the two readings of a couple that is there agree -/
theorem pair_same {n : Nat} {L : List PyData} (C : Cns L) {x : Str} (hn : cnt 40 x < n) {d : PyData} (hd : d ∈ L) : coupD x = some d ∧ ordC d = true ↔ pairT n x = some d := by
  constructor
  · rintro ⟨h, o⟩
    obtain ⟨a, b, u, v, e, ea, eb, rfl⟩ := coup_ex h
    obtain ⟨ca, cb⟩ := side_cnt 40 e
    obtain ⟨r1, _⟩ := (told_iff2 _ _).mp ea
    obtain ⟨r2, _⟩ := (told_iff2 _ _).mp eb
    have t1 := (read_iff (n := n) (l := a.cps.toList) (Nat.lt_of_le_of_lt ca hn) u).mpr r1
    have t2 := (read_iff (n := n) (l := b.cps.toList) (Nat.lt_of_le_of_lt cb hn) v).mpr r2
    have lt : ltR u v := (lt_of C hd).mp (of_decide_eq_true o)
    unfold pairT
    rw [e]
    show ((readT n a.cps.toList).bind _) = _
    rw [t1]
    show ((readT n b.cps.toList).bind _) = _
    rw [t2]
    exact if_pos lt
  · intro h
    obtain ⟨a, b, u, v, e, ea, eb, lt, rfl⟩ := pairT_ex h
    obtain ⟨mu, mv⟩ := sides_two hd
    have fu : Func (rowsD u) := C.f.sub fun p hp => rows_side mu p hp
    have fv : Func (rowsD v) := C.f.sub fun p hp => rows_side mv p hp
    have t1 := (told_iff2 a u).mpr ⟨read_sound _ _ _ ea, fu⟩
    have t2 := (told_iff2 b v).mpr ⟨read_sound _ _ _ eb, fv⟩
    refine ⟨?_, decide_eq_true ((lt_of C hd).mpr lt)⟩
    unfold coupD
    rw [e]
    show ((toldD a).bind _) = _
    rw [t1]
    show ((toldD b).map _) = _
    rw [t2]
    rfl
theorem chain_pair : ∀ {ks : List PyData}, chainD ks = true → ks.Pairwise ltR
  | [], _ => .nil
  | [x], _ => List.pairwise_singleton _ _
  | x :: y :: ks, h => by
    have e : chainD (x :: y :: ks) = (PySem.W.dataLt x y && chainD (y :: ks)) := by
      simp [chainD]
    rw [e, Bool.and_eq_true] at h
    have ih := chain_pair h.2
    rw [List.pairwise_cons]
    refine ⟨fun z hz => ?_, ih⟩
    rcases List.mem_cons.mp hz with rfl | hz
    · exact h.1
    · exact ltR_trans h.1 (List.rel_of_pairwise_cons ih hz)
theorem fact_iff {ds : List PyData} {c : PyData} (cp : ∀ d, d ∈ ds ++ endOf c → Cpl d) :
    factD (.tuple [.tuple ds, c]) = true ↔ Cns (ds ++ endOf c) ∧ (∀ d, d ∈ ds ++ endOf c → ordC d = true) ∧ ds.Pairwise ltR := by
  have key : Cns (ds ++ endOf c) → (∀ d, d ∈ ds ++ endOf c → ordC d = true) → (chainD (ds.map keyC) = true ↔ ds.Pairwise ltR) := fun C o => by
    have one : ∀ x, x ∈ ds → ∀ y, y ∈ ds → (ltR (keyC x) (keyC y) ↔ ltR x y) := fun x hx y hy => by
      obtain ⟨a, b, rfl, _⟩ := cp x (List.mem_append_left _ hx)
      obtain ⟨a', b', rfl, _⟩ := cp y (List.mem_append_left _ hy)
      exact keyC_lt C ⟨of_decide_eq_true (o _ (List.mem_append_left _ hx)), .inl (List.mem_append_left _ hx)⟩ ⟨of_decide_eq_true (o _ (List.mem_append_left _ hy)), .inl (List.mem_append_left _ hy)⟩
    refine Iff.trans (⟨chain_pair, chain_of⟩ : chainD (ds.map keyC) = true ↔ (ds.map keyC).Pairwise ltR) ?_
    rw [List.pairwise_map]
    exact ⟨List.Pairwise.imp_of_mem fun {x y} hx hy => (one x hx y hy).mp, List.Pairwise.imp_of_mem fun {x y} hx hy => (one x hx y hy).mpr⟩
  have e : factD (.tuple [.tuple ds, c]) = (couplesD (ds ++ endOf c) && ((ds ++ endOf c).all ordC && chainD (ds.map keyC))) := rfl
  rw [e, Bool.and_eq_true, Bool.and_eq_true, List.all_eq_true]
  constructor
  · rintro ⟨h1, h2, h3⟩
    have C : Cns (ds ++ endOf c) := ⟨cp, by
      simp only [couplesD, jointD, Bool.and_eq_true, decide_eq_true_eq] at h1
      exact h1.2.2⟩
    exact ⟨C, h2, (key C h2).mp h3⟩
  · rintro ⟨C, h2, h3⟩
    exact ⟨couples_of C, h2, (key C h2).mpr h3⟩
theorem due_eq {n : Nat} {ini : List Str} {last : Str} (hl : last.length ≤ 2000) (hi : ∀ z, z ∈ wordsP ini → z.length ≤ 2000) (cl : cnt 40 last < n) (ci : ∀ z, z ∈ wordsP ini → cnt 40 z < n) :
    dueP n ini last = factP (ini ++ [last]) := by
  rw [factP_snoc, coups_allS]
  unfold dueP
  refine Option.ext fun F => ?_
  have nev : ∀ {c : PyData}, Cpl c → endOf c = [c] := fun {c} h => by
    obtain ⟨a, b, rfl, _⟩ := h
    rfl
  constructor
  · intro h
    obtain ⟨c, hc, h⟩ := Option.bind_eq_some_iff.mp h
    obtain ⟨ds, hds, h⟩ := Option.bind_eq_some_iff.mp h
    split at h
    · rename_i g
      obtain ⟨g1, g2, g3⟩ := g
      cases h
      have hm := allS_iff.mp hds
      have cc : ∀ d, d ∈ endOf c → Cpl d ∧ pairT n last = some d := fun d hd => by
        unfold conclT at hc
        split at hc
        · cases hc
          cases hd
        · have k := pairT_cpl hc hl
          rw [nev k, List.mem_singleton] at hd
          subst hd
          exact ⟨k, hc⟩
      have cp : ∀ d, d ∈ ds ++ endOf c → Cpl d := fun d hd => by
        rcases List.mem_append.mp hd with hd | hd
        · obtain ⟨z, hz, ez⟩ := map_at hm d hd
          exact pairT_cpl ez (hi z hz)
        · exact (cc d hd).1
      have C : Cns (ds ++ endOf c) := ⟨cp, g3⟩
      have o : ∀ d, d ∈ ds ++ endOf c → ordC d = true := fun d hd => by
        rcases List.mem_append.mp hd with h1 | h1
        · obtain ⟨z, hz, ez⟩ := map_at hm d h1
          exact ((pair_same C (ci z hz) hd).mpr ez).2
        · exact ((pair_same C cl hd).mpr (cc d h1).2).2
      have hc2 : conclD last = some c := by
        unfold conclT at hc
        unfold conclD
        split at hc
        · rw [if_pos ‹_›]
          exact hc
        · rw [if_neg ‹_›]
          have k := pairT_cpl hc hl
          exact ((pair_same C cl (List.mem_append_right _ (by rw [nev k]; exact List.mem_singleton.mpr rfl))).mpr hc).1
      have hds2 : allS ((wordsP ini).map coupD) = some ds := allS_iff.mpr (map_some hm fun z hz d hd ez => ((pair_same C (ci z hz) (List.mem_append_left _ hd)).mpr ez).1)
      rw [hc2]
      show ((allS ((wordsP ini).map coupD)).bind _) = _
      rw [hds2]
      exact if_pos ⟨g1, (fact_iff cp).mpr ⟨C, o, g2⟩⟩
    · cases h
  · intro h
    obtain ⟨c, hc, h⟩ := Option.bind_eq_some_iff.mp h
    obtain ⟨ds, hds, h⟩ := Option.bind_eq_some_iff.mp h
    split at h
    · rename_i g
      obtain ⟨g1, g2⟩ := g
      cases h
      have hm := allS_iff.mp hds
      have cc : ∀ d, d ∈ endOf c → Cpl d ∧ coupD last = some d := fun d hd => by
        unfold conclD at hc
        split at hc
        · cases hc
          cases hd
        · have k := coup_cpl hc hl
          rw [nev k, List.mem_singleton] at hd
          subst hd
          exact ⟨k, hc⟩
      have cp : ∀ d, d ∈ ds ++ endOf c → Cpl d := fun d hd => by
        rcases List.mem_append.mp hd with hd | hd
        · obtain ⟨z, hz, ez⟩ := map_at hm d hd
          exact coup_cpl ez (hi z hz)
        · exact (cc d hd).1
      obtain ⟨C, o, pw⟩ := (fact_iff cp).mp g2
      have hc2 : conclT n last = some c := by
        unfold conclD at hc
        unfold conclT
        split at hc
        · rw [if_pos ‹_›]
          exact hc
        · rw [if_neg ‹_›]
          have k := coup_cpl hc hl
          have mc : c ∈ ds ++ endOf c := List.mem_append_right _ (by rw [nev k]; exact List.mem_singleton.mpr rfl)
          exact (pair_same C cl mc).mp ⟨hc, o c mc⟩
      have hds2 : allS ((wordsP ini).map (pairT n)) = some ds := allS_iff.mpr (map_some hm fun z hz d hd ez => (pair_same C (ci z hz) (List.mem_append_left _ hd)).mp ⟨ez, o d (List.mem_append_left _ hd)⟩)
      rw [hc2]
      show ((allS ((wordsP ini).map (pairT n))).bind _) = _
      rw [hds2]
      exact if_pos ⟨g1, pw, C.f⟩
    · cases h
end K13
/-! A fact's text is read as that fact. -/
namespace K13
open PySem PySem.Spec PyProof.Rows L2 Kx
/-- no blank before "=", none at the end -/
def okB : List Nat → Bool
  | [] => true
  | [c] => decide (c ≠ 32)
  | c :: d :: r => (!(decide (c = 32) && decide (d = 61))) && okB (d :: r)
theorem okB_pre {t : List Nat} : ∀ (p : List Nat), okB p = true → ∀ i, i < p.length → TL.pre [32, 61, 62, 32] ((p ++ t).drop i) = false
  | [], _, i, h => absurd h (Nat.not_lt_zero _)
  | [c], o, 0, _ => TL.pre_of_head _ _ (of_decide_eq_true o)
  | [c], o, i + 1, h => absurd h (by simp)
  | c :: d :: r, o, 0, _ => by
    rw [okB, Bool.and_eq_true] at o
    show (([c, d] ++ (r ++ t)).take 4 == [32, 61, 62, 32]) = false
    cases hp : (([c, d] ++ (r ++ t)).take 4 == [32, 61, 62, 32]) with
    | false => rfl
    | true =>
      have e := eq_of_beq hp
      have e : c :: d :: (r ++ t).take 2 = [32, 61, 62, 32] := e
      injection e with e1 e2
      injection e2 with e2 e3
      subst e1 e2
      cases o.1
  | c :: d :: r, o, i + 1, h => by
    rw [okB, Bool.and_eq_true] at o
    show TL.pre _ (((d :: r) ++ t).drop i) = false
    exact okB_pre (d :: r) o.2 i (by simpa using h)
theorem okB_cons {c : Nat} {l : List Nat} (h : c ≠ 32) (o : okB l = true) : okB (c :: l) = true := by
  cases l with
  | nil => exact decide_eq_true h
  | cons d r =>
    rw [okB, o, Bool.and_true]
    simp [h]
theorem okB_free : ∀ {p l : List Nat}, 32 ∉ p → okB l = true → okB (p ++ l) = true
  | [], _, _, o => o
  | c :: p, l, h, o => okB_cons (fun z => h (by rw [z]; exact List.mem_cons_self)) (okB_free (fun z => h (List.mem_cons_of_mem _ z)) o)
theorem okB_join : ∀ {ps : List (List Nat)}, (∀ p, p ∈ ps → 32 ∉ p ∧ ∃ c r, p = c :: r ∧ c ≠ 61) → okB (TL.joinL [32, 38, 32] ps) = true
  | [], _ => rfl
  | [p], h => by
    have := okB_free (l := []) (h p (List.mem_singleton.mpr rfl)).1 rfl
    rwa [List.append_nil] at this
  | p :: q :: r, h => by
    have ih := okB_join (ps := q :: r) fun z hz => h z (List.mem_cons_of_mem _ hz)
    obtain ⟨_, c, r', e, nc⟩ := h q (List.mem_cons_of_mem _ List.mem_cons_self)
    show okB (p ++ ([32, 38, 32] ++ TL.joinL [32, 38, 32] (q :: r))) = true
    refine okB_free (h p List.mem_cons_self).1 ?_
    have e2 : ∃ u, TL.joinL [32, 38, 32] (q :: r) = c :: u := by
      cases r with
      | nil => exact ⟨r', e⟩
      | cons z r => exact ⟨r' ++ ([32, 38, 32] ++ TL.joinL [32, 38, 32] (z :: r)), by rw [e]; rfl⟩
    obtain ⟨u, e2⟩ := e2
    rw [e2] at ih ⊢
    show okB (32 :: 38 :: 32 :: c :: u) = true
    rw [okB, okB, okB, ih]
    simp [nc]
theorem pr_tl (a b : PyData) : TL.tl (prS (.tuple [a, b])) = tx a ++ 61 :: tx b := by
  show TL.tl (Txt.join "=" [tS (tx a), tS (tx b)]) = _
  rw [join_two, TL.tl_append, TL.tl_append]
  show ((tx a).toArray.toList ++ [61]) ++ (tx b).toArray.toList = _
  simp
theorem tx_free {d : PyData} (h : formedD d = true) : 32 ∉ tx d ∧ 61 ∉ tx d := by
  have k := tx_signs d h
  have no : ∀ c, sgn c = true ∨ letter c = true → c ≠ 32 ∧ c ≠ 61 := fun c hc => by
    rcases hc with hc | hc
    · simp only [sgn, Bool.or_eq_true, decide_eq_true_eq, beq_iff_eq] at hc
      omega
    · simp only [letter, Bool.and_eq_true, decide_eq_true_eq] at hc
      omega
  exact ⟨fun z => (no _ (k _ z)).1 rfl, fun z => (no _ (k _ z)).2 rfl⟩
theorem tx_head {d : PyData} (h : formedD d = true) : ∃ c r, tx d = c :: r ∧ c ≠ 61 := by
  have p := tx_pos h
  have f := (tx_free h).2
  cases e : tx d with
  | nil => rw [e] at p; simp at p
  | cons c r => exact ⟨c, r, rfl, fun z => f (by rw [e, z]; exact List.mem_cons_self)⟩
theorem pr_free {a b : PyData} (fa : formedD a = true) (fb : formedD b = true) : 32 ∉ TL.tl (prS (.tuple [a, b])) ∧ ∃ c r, TL.tl (prS (.tuple [a, b])) = c :: r ∧ c ≠ 61 := by
  rw [pr_tl]
  refine ⟨fun z => ?_, ?_⟩
  · rcases List.mem_append.mp z with z | z
    · exact (tx_free fa).1 z
    · rcases List.mem_cons.mp z with z | z
      · cases z
      · exact (tx_free fb).1 z
  · obtain ⟨c, r, e, n⟩ := tx_head fa
    exact ⟨c, r ++ 61 :: tx b, by rw [e]; rfl, n⟩
theorem coup_pr {rs : List NK} {n : Nat} {d : PyData} (h : Pr rs n d) (F : Func rs) : coupD (prS d) = some d := by
  obtain ⟨a, b, rfl, ha, hb, _⟩ := h.ex
  have fin : ∀ {x : PyData}, Tm rs n x → toldD (tS (tx x)) = some x := fun {x} hx => by
    refine (told_iff _ _).mpr ⟨rfl, ?_⟩
    unfold termD
    rw [hx.fm, Bool.true_and]
    exact decide_eq_true (F.sub hx.rw)
  have e : Txt.split (prS (.tuple [a, b])) "=" = [tS (tx a), tS (tx b)] := by
    refine TL.split_join (s := 61) (S := []) rfl (by decide +kernel) (by simp) fun p hp => ?_
    simp only [List.mem_cons, List.not_mem_nil, or_false] at hp
    rcases hp with rfl | rfl
    · show 61 ∉ (tx a).toArray.toList
      rw [List.toList_toArray]
      exact (tx_free ha.fm).2
    · show 61 ∉ (tx b).toArray.toList
      rw [List.toList_toArray]
      exact (tx_free hb.fm).2
  unfold coupD
  rw [e]
  show ((toldD (tS (tx a))).bind fun d => (toldD (tS (tx b))).map fun e => PyData.tuple [d, e]) = _
  rw [fin ha, fin hb]
  rfl
theorem pr_not {a b : PyData} : prS (.tuple [a, b]) ≠ "never" := fun z => by
  have e := congrArg TL.tl z
  rw [pr_tl] at e
  have m : 61 ∈ TL.tl "never" := by
    rw [← e]
    exact List.mem_append_right _ List.mem_cons_self
  revert m
  decide
theorem end_ok {rs : List NK} {n : Nat} {c : PyData} (h : c = .none ∨ Pr rs n c) (F : Func rs) : conclD (endS c) = some c ∧ 32 ∉ TL.tl (endS c) := by
  rcases h with rfl | h
  · exact ⟨if_pos rfl, by decide⟩
  · have e := coup_pr h F
    obtain ⟨a, b, rfl, ha, hb, _⟩ := h.ex
    refine ⟨?_, (pr_free ha.fm hb.fm).1⟩
    unfold conclD
    rw [show endS (.tuple [a, b]) = prS (.tuple [a, b]) from rfl, if_neg pr_not]
    exact e
theorem coups_prs {rs : List NK} {n : Nat} (F : Func rs) : ∀ {L : List PyData}, (∀ d, d ∈ L → Pr rs n d) → coups (L.map prS) = some L
  | [], _ => rfl
  | d :: L, h => by
    rw [List.map_cons, coups, coup_pr (h d List.mem_cons_self) F, coups_prs F fun e he => h e (List.mem_cons_of_mem _ he)]
    rfl
theorem pre4 : TL.tl (" => " : Str) = [32, 61, 62, 32] := rfl
theorem split_end {x : Str} (h : 32 ∉ TL.tl x) : Txt.split x " => " = [x] := by
  refine TL.map_tl_inj ?_
  rw [TL.split_spl _ _ (by decide) (TL.kind_ok (by decide +kernel)), pre4, TL.spl_last1 h]
  rfl
theorem split_two {J x : Str} (o : okB (TL.tl J) = true) (h : 32 ∉ TL.tl x) : Txt.split ((J ++ " => ") ++ x) " => " = [J, x] := by
  refine TL.map_tl_inj ?_
  rw [TL.split_spl _ _ (by decide) (TL.kind_ok (by decide +kernel)), TL.tl_append, TL.tl_append, pre4, List.append_assoc, TL.spl_part (by simp) (okB_pre _ o), TL.spl_last1 h]
  rfl
theorem read_back {rs : List NK} {n m : Nat} {L : List PyData} {c : PyData} (h : Fa rs n m L c) (l : n ≤ 6) (F : Func rs) : factR (ftS L c) = some (.tuple [.tuple L, c]) := by
  obtain ⟨ec, fc⟩ := end_ok h.c F
  have ft := h.fact l F
  unfold factR
  by_cases e : L = []
  · subst e
    rw [show ftS [] c = endS c from if_pos rfl, split_end fc]
    have := factP_snoc [] (endS c)
    rw [List.nil_append] at this
    rw [this, ec]
    exact if_pos ⟨by simp, ft⟩
  · have ok : ∀ p, p ∈ (L.map prS).map TL.tl → 32 ∉ p ∧ ∃ c r, p = c :: r ∧ c ≠ 61 := fun p hp => by
      obtain ⟨x, hx, rfl⟩ := List.mem_map.mp hp
      obtain ⟨d, hd, rfl⟩ := List.mem_map.mp hx
      obtain ⟨a, b, rfl, ha, hb, _⟩ := (h.ps d hd).ex
      exact pr_free ha.fm hb.fm
    rw [show ftS L c = (Txt.join " & " (L.map prS) ++ " => ") ++ endS c from if_neg e, split_two (by
      rw [TL.join_eq, TL.tl_join]
      exact okB_join ok) fc]
    have := factP_snoc [Txt.join " & " (L.map prS)] (endS c)
    rw [List.singleton_append] at this
    rw [this, ec]
    have ew : wordsP [Txt.join " & " (L.map prS)] = L.map prS := by
      have : Txt.split (Txt.join " & " (L.map prS)) " & " = L.map prS := TL.split_join (s := 32) (S := [38, 32]) rfl (by decide +kernel) (by simpa using e) fun p hp => (ok _ (List.mem_map_of_mem hp)).1
      simp [wordsP, this]
    show ((coups (wordsP [Txt.join " & " (L.map prS)])).bind _) = _
    rw [ew, coups_prs F h.ps]
    exact if_pos ⟨by simp, ft⟩
end K13
/-! repr, sorted, < of deep data; None in a list of data. -/
namespace Kx
open PySem PySem.Spec PyProof.Rows L2
section
variable {X : Cx}
/-- repr(x) of data, where nothing around shows itself -/
def rReprF (K : PySem.W.Frag) : List V → Hp → VK → Prop := fun xs H Q => ∃ x d, xs = [x] ∧ Dx K H x d ∧ d.showable = true ∧ (d.hasDict = true → noL d = true) ∧ d.depth ≤ 190 ∧ d.shown.length + 64 ≤ sizeLine ∧ Q (.str d.shown) H
theorem cr_reprF (cm : Calm X.A) (hu : X.A.units + 200 < cLine) : CallR X (.builtin "repr") (rReprF X.K) := by
  intro pins s σ H xs us Q I rv h
  obtain ⟨x, d, rfl, hx, sh, hd, dp, sz, q⟩ := h
  obtain ⟨u, rfl, ru⟩ := rv.one
  obtain ⟨as, rd, ns⟩ := Dx.reads I d x u hx ru
  cases rd with
  | none => exact PySem.P.repr_of_none ⟨.str _, H, I.tok _, ⟨_, rfl⟩, q⟩
  | bool b => exact PySem.P.repr_of_bool ⟨.str _, H, I.tok _, ⟨_, rfl⟩, by simpa [PyData.shown] using q⟩
  | int i t => exact PySem.P.repr_of_int (by simpa [PyData.showable] using sh) ⟨.str _, H, I.tok _, ⟨_, rfl⟩, q⟩
  | str z t => exact PySem.P.repr_of_str ⟨.str _, H, I.tok _, ⟨_, rfl⟩, q⟩ (Nat.le_trans (Nat.le_add_right _ 64) (by simpa [PyData.shown] using sz))
  | list h1 h2 h3 h4 =>
    exact repr_of_reads' (.list h1 h2 h3 h4) sh (fun z => ns (hd z)) cm (by omega) (fun _ _ e => e) (fun h' u tk k => ⟨.str _, H, I.kept k, ⟨_, rfl⟩, q⟩) (by omega)
  | tuple h1 h2 h3 h4 =>
    exact repr_of_reads' (.tuple h1 h2 h3 h4) sh (fun z => ns (hd z)) cm (by omega) (fun _ _ e => e) (fun h' u tk k => ⟨.str _, H, I.kept k, ⟨_, rfl⟩, q⟩) (by omega)
  | dict h1 h2 h3 h4 h5 =>
    exact repr_of_reads' (.dict h1 h2 h3 h4 h5) sh (fun z => ns (hd z)) cm (by omega) (fun _ _ e => e) (fun h' u tk k => ⟨.str _, H, I.kept k, ⟨_, rfl⟩, q⟩) (by omega)
def rSortF (K : PySem.W.Frag) : List V → Hp → VK → Prop := fun xs H Q => ∃ (a : Addr) (zs : List Item), xs = [.ref a] ∧ SqL K H a (zs.map Prod.fst) ∧ (∀ p, p ∈ zs → Dp K H p.1 p.2) ∧ PySem.W.AllAlike (zs.map Prod.snd) ∧ PySem.W.Sortable (zs.map Prod.snd) ∧
  zs.length ≤ sizeLine ∧ (∀ p, p ∈ zs → p.2.depth ≤ 190) ∧ ∀ p, H p = none → Q (.ref p) (upd H p (.lst ((zs.mergeSort (PySem.W.dataLe false Prod.snd)).map Prod.fst)))
theorem cr_sortedF (hu : X.A.units + 200 < cLine) : CallR X (.builtin "sorted") (rSortF X.K) := by
  intro pins s σ H xs us Q I rv h
  obtain ⟨a, zs, rfl, hl, hz, al, so, sz, dp, q⟩ := h
  obtain ⟨u, rfl, ru⟩ := rv.one
  cases ru
  obtain ⟨its, r, pl, nl⟩ := I.list hl
  have each : ∀ (zs : List Item) (its : List Value), Vals (zs.map Prod.fst) its → (∀ p, p ∈ zs → Dp X.K H p.1 p.2) → PySem.W.EachIs (fun u (p : Item) => RelV p.1 u ∧ ∃ as, Reads s.heap u p.2 as) its zs := by
    intro zs
    induction zs with
    | nil =>
      intro its r _
      cases r
      exact .nil
    | cons p zs ih =>
      intro its r hz
      cases r with
      | cons r1 rt => exact .cons ⟨r1, Dp.reads I _ _ _ (hz p List.mem_cons_self) r1⟩ (ih _ rt fun q hq => hz q (List.mem_cons_of_mem _ hq))
  have e := each zs its r hz
  have back : ∀ {out : List Value} {ys : List Item}, PySem.W.EachIs (fun u (p : Item) => RelV p.1 u ∧ ∃ as, Reads s.heap u p.2 as) out ys → Vals (ys.map Prod.fst) out := by
    intro out ys h
    induction h with
    | nil => exact .nil
    | cons h _ ih => exact .cons h.1 ih
  refine PySem.W.sorted_data pl.isList e (e.mono fun _ _ h => h.2) al so sz (fun b hb => by have := dp b hb; omega) ?_
  intro out ho eo
  obtain ⟨ep, he⟩ := PyProof.Rows.sortedAll_at s.heap its out.toArray
  have rr := back eo
  have ln : ((zs.mergeSort (PySem.W.dataLe false Prod.snd)).map Prod.fst).length ≤ sizeLine := by
    rw [List.length_map, List.length_mergeSort]
    exact sz
  exact ⟨.ref _, upd H (s.heap.objs.size + 1) (.lst ((zs.mergeSort (PySem.W.dataLe false Prod.snd)).map Prod.fst)), I.laid (t' := s.toks) (fun _ _ => PyProof.Rows.sortedAll_old) (Nat.le_succ _) ⟨ln, out, ep, rr, he⟩, rfl, q _ (I.hok.fresh (Nat.le_succ _))⟩
def rLtF (K : PySem.W.Frag) : V → V → Hp → VK → Prop := fun x y H Q => ∃ da db, Dx K H x da ∧ Dx K H y db ∧ PySem.W.alike da db = true ∧ da ≠ .none ∧ da.depth ≤ 190 ∧ Q (.bl (PySem.W.dataLt da db)) H
theorem op_ltF (hu : X.A.units + 200 < cLine) : OpR X (compareOp .Lt) (rLtF X.K) := by
  intro pins s σ H x y u v Q I rx ry h
  obtain ⟨da, db, dx, dy, al, nn, dp, q⟩ := h
  obtain ⟨as, ra, _⟩ := Dx.reads I da x u dx rx
  obtain ⟨bs, rb, _⟩ := Dx.reads I db y v dy ry
  exact PySem.W.lt_data ra rb al nn (by omega) ⟨.bl _, H, I, rfl, q⟩
/-- None in a list of data -/
def rInN (K : PySem.W.Frag) : R2 := fun x y H Q => ∃ ds, x = .non ∧ Dp K H y (.list ds) ∧ PyData.canLayAll0 ds = true ∧ Q (.bl (ds.any fun z => PyData.eqv z .none)) H
theorem op_inN (hu : X.A.units + 200 < cLine) : OpR X (compareOp .In) (rInN X.K) := by
  intro pins s σ H x y v u Q I rx ry h
  obtain ⟨ds, rfl, he, sd, q⟩ := h
  obtain ⟨as, r1⟩ := Dp.reads I .none .non v (Dx.dp (K := X.K) rfl .non) rx
  obtain ⟨bs, r2⟩ := Dp.reads I (.list ds) y u he ry
  exact SeqAt.in_list_reads r2 r1 sd rfl (by have := Nat.min_le_right (PyData.depthAll ds) PyData.none.depth; have e0 : PyData.none.depth = 0 := rfl; omega) ⟨.bl _, H, I, rfl, q⟩
end
end Kx
/-! A comprehension over the signs of a text. -/
namespace Kx
open PySem PySem.Spec PyProof.Rows L2
/-- a comprehension over the signs of a text -/
theorem lc_signs {z : Str} {g : TG} {tt : TT} {te : TE} {vs : List Nat} {σ : L2.St} {H1 : Hp} {D : Addr} {Qd : Hp → Prop} (Pv : Nat → Hp → Prop) (h0 : Pv 0 (upd H1 D (.lst [])))
    (hs : ∀ i c H, z.cps[i]? = some c → Pv i H → g (.str ⟨#[c]⟩) (wipe σ vs) H fun σ2 H2 => wipe σ2 vs = wipe σ vs ∧ tt σ2 H2 fun b H3 =>
      if b = true then te σ2 H3 fun y H4 => ∃ acc, H4 D = some (.lst acc) ∧ acc.length < sizeLine ∧ Pv (i + 1) (upd H4 D (.lst (acc ++ [y]))) else Pv (i + 1) H3) (hd : ∀ H, Pv z.cps.size H → Qd H) :
    ∃ W : Nat → Nat → Hp → Prop, (∃ m, W 0 m (upd H1 D (.lst []))) ∧ ∀ i m H, W i m H →
      ((Its z).stop i H ∧ Qd H) ∨ ((Its z).go i H ∧ ∃ Nx : Hp → Prop, (∀ H', Nx H' → ∃ m', m' < m ∧ W (i + 1) m' H') ∧ ∀ x H', (Its z).yld i H x H' → g x (wipe σ vs) H' fun σ2 H2 => wipe σ2 vs = wipe σ vs ∧ tt σ2 H2 fun b H3 =>
        if b = true then te σ2 H3 fun y H4 => ∃ acc, H4 D = some (.lst acc) ∧ acc.length < sizeLine ∧ Nx (upd H4 D (.lst (acc ++ [y]))) else Nx H3) := by
  refine ⟨fun i m H => m = z.cps.size - i ∧ i ≤ z.cps.size ∧ Pv i H, ⟨z.cps.size, rfl, Nat.zero_le _, h0⟩, ?_⟩
  rintro i m H ⟨rfl, hi, p⟩
  by_cases lt : i < z.cps.size
  · refine .inr ⟨lt, Pv (i + 1), fun H' p' => ⟨z.cps.size - (i + 1), by omega, rfl, lt, p'⟩, ?_⟩
    rintro x H' ⟨rfl, c, hc, rfl⟩
    exact hs i c _ hc p
  · obtain rfl : i = z.cps.size := by omega
    exact .inl ⟨Nat.le_refl _, hd H p⟩
end Kx
/-! _law_term_read. -/
namespace K13
open PySem PySem.Spec PyProof.Rows L2 Kx
theorem for_signs {z : Str} {g : TG} {tb : TS} {D : L2.Ends} {σ : L2.St} {H : Hp} (Pv : Nat → L2.St → Hp → Prop) (h0 : Pv 0 σ H)
    (hs : ∀ i c σ H, z.cps[i]? = some c → Pv i σ H → g (.str ⟨#[c]⟩) σ H fun σ2 H2 => tb { D with nx := Pv (i + 1), ct := Pv (i + 1), bk := D.nx } σ2 H2) (hd : ∀ σ H, Pv z.cps.size σ H → D.nx σ H) :
    ∃ W : Nat → Nat → L2.St → Hp → Prop, (∃ m, W 0 m σ H) ∧ ∀ i m σ H, W i m σ H →
      ((Its z).stop i H ∧ D.nx σ H) ∨ ((Its z).go i H ∧ ∃ N : L2.St → Hp → Prop, (∀ σ' H', N σ' H' → ∃ m', m' < m ∧ W (i + 1) m' σ' H') ∧ ∀ x H', (Its z).yld i H x H' → g x σ H' fun σ2 H2 => tb { D with nx := N, ct := N, bk := D.nx } σ2 H2) := by
  refine ⟨fun i m σ H => m = z.cps.size - i ∧ i ≤ z.cps.size ∧ Pv i σ H, ⟨z.cps.size, rfl, Nat.zero_le _, h0⟩, ?_⟩
  rintro i m σ H ⟨rfl, hi, p⟩
  by_cases lt : i < z.cps.size
  · refine .inr ⟨lt, Pv (i + 1), fun σ' H' p' => ⟨z.cps.size - (i + 1), by omega, rfl, lt, p'⟩, ?_⟩
    rintro x H' ⟨rfl, c, hc, rfl⟩
    exact hs i c σ _ hc p
  · obtain rfl : i = z.cps.size := by omega
    exact .inl ⟨Nat.le_refl _, hd σ H p⟩
theorem word_free : ∀ l : List Nat, 40 ∉ wordL l
  | [] => by simp [wordL]
  | c :: l => by
    have ih := word_free l
    unfold wordL at ih ⊢
    by_cases e : c = 40
    · simp [e]
    · rw [List.takeWhile_cons_of_pos (by simpa using e)]
      intro z
      rcases List.mem_cons.mp z with z | z
      · exact e z.symm
      · exact ih z
theorem split_head (y : Str) : ∃ r, Txt.split y "(" = tS (wordL y.cps.toList) :: r := by
  have e := TL.split_spl y "(" (by decide) (TL.kind_ok (by decide +kernel))
  have nf : ∀ l : List Nat, 40 ∉ wordL l := word_free
  rcases word_rest y.cps.toList with h | ⟨rest, h⟩
  · have f : 40 ∉ TL.tl y := by
      have := nf y.cps.toList
      rwa [h] at this
    rw [show TL.tl "(" = [40] from rfl, TL.spl_last1 f] at e
    cases hs : Txt.split y "(" with
    | nil => rw [hs] at e; cases e
    | cons a r =>
      rw [hs, List.map_cons] at e
      obtain ⟨e1, e2⟩ := List.cons.inj e
      refine ⟨r, ?_⟩
      rw [h, tS_list]
      congr 1
      exact TL.ext_tl e1
  · have h2 : TL.tl y = wordL y.cps.toList ++ ([40] ++ rest) := h
    rw [show TL.tl "(" = [40] from rfl, h2, TL.spl_part1 (nf _)] at e
    cases hs : Txt.split y "(" with
    | nil => rw [hs] at e; cases e
    | cons a r =>
      rw [hs, List.map_cons] at e
      obtain ⟨e1, e2⟩ := List.cons.inj e
      refine ⟨r, ?_⟩
      congr 1
      refine TL.ext_tl ?_
      rw [e1]
      show _ = (wordL y.cps.toList).toArray.toList
      simp
theorem abc (c : Nat) : decide (c ∈ TL.tl "abcdefghijklmnopqrstuvwxyz") = letter c := by
  have e : TL.tl "abcdefghijklmnopqrstuvwxyz" = List.range' 97 26 := by decide +kernel
  rw [e, Bool.eq_iff_iff]
  simp only [decide_eq_true_eq, List.mem_range'_1, letter, Bool.and_eq_true]
  omega
theorem cut_inner {l : List Nat} {y : Str} (hy : y.cps.toList = l) (h : wordL l ≠ l) (hl : l.getLast? = some 41) : cutS y (some (((wordL l).length : Int) + 1)) (some (-1)) = tS (innerL l) := by
  have e := inner_ex h hl
  have ly : y.length = l.length := by rw [← hy]; exact (Array.length_toList ..).symm
  have ll := congrArg List.length e
  simp only [List.length_append, List.length_cons, List.length_nil] at ll
  have h1 : HT.sIx y.length 0 (some (((wordL l).length : Int) + 1)) = (wordL l).length + 1 := by
    simp only [HT.sIx]
    split <;> omega
  have h2 : HT.sIx y.length y.length (some (-1)) = l.length - 1 := by
    simp only [HT.sIx]
    split <;> omega
  unfold cutS
  rw [h1, h2, hy]
  have e2 : l.drop ((wordL l).length + 1) = innerL l ++ [41] := by
    have : ∀ w : List Nat, l = w ++ 40 :: (innerL l ++ [41]) → l.drop (w.length + 1) = innerL l ++ [41] := fun w z => by
      conv => lhs; rw [z]
      have : w ++ 40 :: (innerL l ++ [41]) = (w ++ [40]) ++ (innerL l ++ [41]) := by simp
      rw [this, List.drop_append_of_le_length (by simp)]
      simp
    exact this _ e
  rw [e2, show l.length - 1 - ((wordL l).length + 1) = (innerL l).length by omega, List.take_left]
  rfl
theorem jn_sub : ∀ {ps : List (List Nat)} {p : List Nat}, p ∈ ps → p.length ≤ (jn ps).length ∧ p.count 40 ≤ (jn ps).count 40
  | [x], p, h => by
    rw [List.mem_singleton.mp h]
    exact ⟨Nat.le_refl _, Nat.le_refl _⟩
  | x :: z :: r, p, h => by
    rw [jn, List.length_append, List.count_append, List.length_cons, List.count_cons_of_ne (by decide)]
    rcases List.mem_cons.mp h with rfl | h
    · omega
    · have := jn_sub h
      omega
theorem none_in : ∀ os : List (Option PyData), (∀ o, o ∈ os → ∀ d, o = some d → d ≠ .none) → ((os.map optD).any fun z => PyData.eqv z .none) = decide (allS os = none)
  | [], _ => rfl
  | o :: os, h => by
    have ih := none_in os fun x hx => h x (List.mem_cons_of_mem _ hx)
    rw [List.map_cons, List.any_cons, ih, allS]
    cases o with
    | none => rfl
    | some d =>
      have hd := h _ List.mem_cons_self d rfl
      have e : PyData.eqv (optD (some d)) .none = false := by
        cases d <;> first | exact absurd rfl hd | rfl
      rw [e, Bool.false_or]
      show _ = decide ((allS os).map (d :: ·) = none)
      cases allS os <;> rfl
section
variable {P : Program} {w : World} {K : PySem.W.Frag} {mg : Str → Option Value} {base : Heap}
def spTr (K : PySem.W.Frag) (n : Nat) : Sp := fun vs H Q _ => ∃ (x : Str), vs = [.str x] ∧ x.length ≤ 2000 ∧ cnt 40 x < n ∧ ∀ v H', Same H H' → Dx K H' v (optD (readT n x.cps.toList)) → Q v H'
theorem ok_tr (T : Tx K mg) : ∀ n, FnOk P w K mg base CX0 (n + 1) T.a_law_term_read T.d_law_term_read ["text"] (spTr K n)
  | 0 => by
    refine T.f_law_term_read.ok sc__law_term_read (fun vs H Q E h => ?_) (fun cdv A outer s H vs Q E hr h => ?_)
    · obtain ⟨x, rfl, _⟩ := h
      rfl
    · obtain ⟨x, rfl, _, l, _⟩ := h
      exact absurd l (Nat.not_lt_zero _)
  | n + 1 => by
    have nd := sc__law_term_read.nd
    have G := ok_tr T n
    refine T.f_law_term_read.ok sc__law_term_read (fun vs H Q E h => ?_) (fun cdv A outer s H vs Q E hr h => ?_)
    · obtain ⟨x, rfl, _⟩ := h
      rfl
    obtain ⟨y, rfl, ly, cy, q⟩ := h
    refine ⟨_, (pss_cons (ps_set (i := 1) nd rfl (.inl rfl) (pe_ix ix_list (pe_bm PySem.F.plainAttrs_str PySem.F.slot_str_split PySem.F.type_str_split mt_split (pv 0) (pa_cons pe_str pa_nil)) pe_int (fun _ _ => rfl)))
      (pss_cons (ps_if (PW.pt (pw_or (pt_not (pt_chain op_lt op_lt pe_int (pe_callB call_len_str (by rfl) T.b_len (by decide +kernel) (pa_cons (pv 1) pa_nil)) pe_int)) (pw_or1 (pt_cmpR (op_neNil hr.units) (pe_lc (own := [("sign", 2)]) (g := (gName 2)) (by rfl) nd (pi_str (pv 1)) (blkOk_by (own := [("sign", 2)]) (N := N__law_term_read) (sc := defScope s__law_term_read) (by decide +kernel)) (fun _ _ _ _ _ => pg_name (i := 2) nd rfl (.inl rfl)) (fun _ _ _ _ _ => (pts_one (pt_cmpR op_notIn_str (pv 2) pe_str (by rfl)))) (fun _ _ _ _ _ => (pv 2))) (pe_lst pa_nil) (nomark _))))) (pss_one (ps_ret pe_non)) pss_nil)
      (pss_cons (ps_if (pt_cmpR op_eq (pv 1) (pv 0) (nomark _)) (pss_one (ps_ret (pe_tup (pa_cons (pv 1) pa_nil)))) pss_nil)
      (pss_cons (ps_if (pt_cmpR op_ne (pe_ix ix_str (pv 0) (pe_un un_neg pe_int) (fun _ _ => rfl)) pe_str (nomark _)) (pss_one (ps_ret pe_non)) pss_nil)
      (pss_cons (ps_par3 (i := 3) (j := 4) (l := 5) (by rfl) nd rfl rfl rfl (by decide) (by decide) (by decide) rfl rfl rfl (pa_cons (pe_slice sl_str (pv 0) (po_some (pe_op op_add (pe_callB call_len_str (by rfl) T.b_len (by decide +kernel) (pa_cons (pv 1) pa_nil)) pe_int)) (po_some (pe_un un_neg pe_int))) (pa_cons pe_int (pa_cons (pe_lst (pa_cons pe_str pa_nil)) pa_nil))) (by rfl))
      (C8.pss_cut (ps_for PassesOwn.never rfl (pi_str (pv 3)) (pg_name (i := 2) nd rfl (.inl rfl)) (pss_cons (ps_set (i := 4) nd rfl (.inl rfl) (pe_op op_sub (pe_op op_add (pv 4) (pe_callTy call_int1 (by rfl) T.b_int (by decide +kernel) (pa_cons (pe_cmpR op_eq (pv 2) pe_str (nomark _)) pa_nil))) (pe_callTy call_int1 (by rfl) T.b_int (by decide +kernel) (pa_cons (pe_cmpR op_eq (pv 2) pe_str (nomark _)) pa_nil))))
      (pss_cons (ps_if (pt_cmpR op_lt (pv 4) pe_int (nomark _)) (pss_one (ps_ret pe_non)) pss_nil)
      (pss_one (ps_if (PW.pt (pw_and (pt_cmpR op_eq (pv 2) pe_str (nomark _)) (pw_and1 (pt_cmpR op_eq (pv 4) pe_int (nomark _))))) (pss_one (ps_expr (pe_bm PySem.F.plainAttrs_list PySem.F.slot_list_append PySem.F.type_list_append mt_append (pv 5) (pa_cons pe_str pa_nil)))) (pss_one (ps_asg (pe_op op_add_str (pe_ix ix_list (pv 5) (pe_un un_neg pe_int) (fun _ _ => rfl)) (pv 2)) (pg_sub (pv 5) (pe_un un_neg pe_int) set_list))))))))
      (pss_cons (ps_setLc (i := 6) (own := [("piece", 7)]) (g := (gName 7)) (tt := tYes) (by rfl) nd rfl rfl (sw_true rfl rfl rfl (by decide +kernel)) (pi_list (pv 5)) (blkOk_by (own := [("piece", 7)]) (N := N__law_term_read) (sc := defScope s__law_term_read) (by decide +kernel)) (fun _ _ _ _ _ => pg_name (i := 7) nd rfl (.inl rfl)) (fun _ _ _ _ _ => pts_nil) (fun _ _ _ _ _ => (pe_ifExp (pt_cmpR op_ne (pv 7) pe_str (nomark _)) (pe_call G (hr.mono (by omega)) (by rfl) T.g_law_term_read T.f_law_term_read.kp T.n_law_term_read .nil pass0 (pa_cons (pv 7) pa_nil)) pe_non)))
      (pss_one (ps_ret (pe_ifExp (PW.pt (pw_or (pt_cmpR op_ne (pv 4) pe_int (nomark _)) (pw_or (pt_cmpR op_gt (pe_callB call_len_seq (by rfl) T.b_len (by decide +kernel) (pa_cons (pv 6) pa_nil)) pe_int (nomark _)) (pw_or1 (pt_cmpR (op_inN (room200 hr)) pe_non (pv 6) (by rfl)))))) pe_non (pe_op op_catA (pe_tup (pa_cons (pv 1) pa_nil)) (pe_callTy call_tuple_of (by rfl) T.b_tuple (by decide +kernel) (pa_cons (pv 6) pa_nil))))))))))))), ?_⟩
    have sz : 10000 ≤ sizeLine := by decide
    refine ⟨_, rfl, rfl, y, "(", rfl, rfl, rfl, by omega, fun p np => ?_⟩
    obtain ⟨rs, ers⟩ := split_head y
    have s1 := same_put (o := .lst ((Txt.split y "(").map V.str)) np
    refine ⟨p, _, 0, .str (tS (wordL y.cps.toList)), rfl, rfl, SqL.of upd_same, by rw [ers]; exact atI_nat (j := 0) rfl, ?_⟩
    generalize upd H p (.lst ((Txt.split y "(").map V.str)) = H1 at s1 ⊢
    clear ers
    have ey : tS y.cps.toList = y := tS_list y
    have lly : y.length = y.cps.toList.length := (Array.length_toList ..).symm
    have hy : y.cps.toList = y.cps.toList := rfl
    have cy : y.cps.toList.count 40 < n + 1 := cy
    generalize hl : y.cps.toList = l at q ey lly cy ⊢
    dsimp only [gName]
    have no : readT (n + 1) l = none → ∀ H', Same H1 H' → Q .non H' := fun e H' s' => q _ H' (s1.trans s') (by rw [e]; exact .non)
    have r0 : wordOk (wordL l) = false → readT (n + 1) l = none := fun e => by rw [readT, if_pos e]
    have lw : (wordL l).length ≤ l.length := by unfold wordL; exact (List.takeWhile_sublist _).length_le
    refine ⟨_, rfl, tS (wordL l), rfl, by rw [tS_len]; omega, _, _, rfl, rfl, _, rfl, ?_⟩
    rw [tS_len]
    cases c1 : decide ((0 : Int) < ((wordL l).length : Int)) with
    | false =>
      refine iteF ⟨_, rfl, iteT (iteT (no (r0 ?_) H1 (Same.refl H1)))⟩
      have := of_decide_eq_false c1
      simp [wordOk, show (wordL l).length = 0 by omega]
    | true =>
    refine iteT ⟨_, _, rfl, rfl, _, rfl, ?_⟩
    cases c2 : decide (((wordL l).length : Int) < 9) with
    | false =>
      refine iteT (iteT (no (r0 ?_) H1 (Same.refl H1)))
      have := of_decide_eq_false c2
      simp [wordOk]
      omega
    | true =>
    have c1 := of_decide_eq_true c1
    have c2 := of_decide_eq_true c2
    refine iteF ⟨_, rfl, tS (wordL l), rfl, fun D nD => ?_⟩
    refine lc_signs (fun i G => Same H1 G ∧ ∃ ws : List V, G D = some (.lst ws) ∧ ws.length ≤ i ∧ ws.isEmpty = ((wordL l).take i).all letter) ⟨same_put nD, [], upd_same, Nat.le_refl _, rfl⟩ ?_ ?_
    · rintro i c G hc ⟨sG, ws, eD, lws, ews⟩
      have hc2 : (wordL l)[i]? = some c := by
        have : (wordL l).toArray[i]? = some c := hc
        simpa using this
      have li : i < (wordL l).length := (List.getElem?_eq_some_iff.mp hc2).1
      refine ⟨rfl, _, rfl, _, _, rfl, rfl, _, rfl, ?_⟩
      have eb : (!!(Builtin.Str.occurrences (Str.ofString "abcdefghijklmnopqrstuvwxyz") ⟨#[c]⟩ 0 (Str.ofString "abcdefghijklmnopqrstuvwxyz").length 1).isEmpty) = !letter c := by
        rw [← abc c]
        exact congrArg (! ·) (StrLaws.found_one (Str.ofString "abcdefghijklmnopqrstuvwxyz") c)
      have et : ((wordL l).take (i + 1)).all letter = (((wordL l).take i).all letter && letter c) := by
        rw [List.take_add_one, hc2, List.all_append]
        simp
      refine ite2 (fun e => ?_) (fun e => ?_)
      · rw [eb] at e
        have el : letter c = false := by simpa using e
        refine ⟨_, rfl, ws, eD, Nat.lt_of_le_of_lt (show ws.length ≤ 10 by omega) (by omega), (fun b o hb => by rw [upd_ne (ne_of_none hb nD)]; exact sG b o hb), ws ++ [.str ⟨#[c]⟩], upd_same, by simp; omega, ?_⟩
        rw [et, el]
        simp
      · rw [eb] at e
        have el : letter c = true := by simpa using e
        exact ⟨sG, ws, eD, by omega, by rw [et, el, Bool.and_true]; exact ews⟩
    rintro G ⟨sG, ws, eD, lws, ews⟩
    have esz : (tS (wordL l)).cps.size = (wordL l).length := by
      show (wordL l).toArray.size = _
      simp
    rw [esz, List.take_length] at ews
    refine ⟨Nat.zero_le _, fun e ne => ?_⟩
    have s2 := sG.trans (same_put (o := .lst []) ne)
    have eD2 := same_put (o := .lst []) ne _ _ eD
    refine ⟨D, e, ws, rfl, rfl, SqL.of eD2, SqL.of upd_same, _, rfl, ?_⟩
    generalize upd G e (.lst []) = H2 at s2 eD2 ⊢
    rw [ews]
    cases c3 : (wordL l).all letter with
    | false => exact iteT (no (r0 (by simp [wordOk, c3])) H2 s2)
    | true =>
    have ok : wordOk (wordL l) = true := by
      simp only [wordOk, Bool.and_eq_true, decide_eq_true_eq]
      exact ⟨by omega, by omega, c3⟩
    refine iteF ⟨_, rfl, _, rfl, rfl, _, rfl, ?_⟩
    have ew : (V.str (tS (wordL l)) = V.str y) ↔ wordL l = l := by
      rw [V.str.injEq, ← ey]
      exact ⟨tS_inj, fun h => by rw [h]⟩
    by_cases c4 : wordL l = l
    · rw [decide_eq_true (ew.mpr c4)]
      refine iteT ⟨_, rfl, by show 1 ≤ sizeLine; omega, fun t nt => ?_⟩
      refine q _ _ (s1.trans (s2.trans (same_put nt))) ?_
      rw [readT, if_neg (by rw [ok]; decide), if_pos c4]
      exact .tup upd_same (.cons (by rw [c4]; exact .str _) .nil)
    rw [decide_eq_false (fun z => c4 (ew.mp z))]
    refine iteF ?_
    have lne : l ≠ [] := fun z => by rw [z] at c1; simp [wordL] at c1
    obtain ⟨ini, cz, ez⟩ : ∃ i c, l = i ++ [c] := by
      rcases List.eq_nil_or_concat l with z | ⟨i, c, z⟩
      · exact absurd z lne
      · exact ⟨i, c, by rw [z, List.concat_eq_append]⟩
    refine ⟨_, rfl, 1, rfl, y, -1, cz, rfl, rfl, by omega, by rw [hl, ez]; exact atI_last _ _, rfl, _, rfl, ?_⟩
    have gl : l.getLast? = some cz := by rw [ez]; simp
    by_cases c5 : cz = 41
    rotate_left
    · have e9 : (!decide (V.str ⟨#[cz]⟩ = V.str ")")) = true := by
        simp only [Bool.not_eq_true', decide_eq_false_iff_not]
        intro z
        have := congrArg TL.tl (V.str.inj z)
        have : [cz] = [41] := this
        injection this with this
        exact c5 this
      rw [e9]
      refine iteT (no ?_ H2 s2)
      rw [readT, if_neg (by rw [ok]; decide), if_neg c4, if_pos (by rw [gl]; simpa using c5)]
    subst c5
    rw [show (!decide (V.str ⟨#[41]⟩ = V.str ")")) = false from rfl]
    refine iteF ?_
    have rd : readT (n + 1) l = (scan (innerL l) 0 [[]]).bind fun r => if r.1 ≠ 0 ∨ 3 < r.2.length then none else (allS (r.2.map fun p => if p = [] then none else readT n p)).map fun ds => .tuple (.str (tS (wordL l)) :: ds) := by
      rw [readT, if_neg (by rw [ok]; decide), if_neg c4, if_neg (by rw [gl]; simp)]
    have ein := inner_ex c4 gl
    have lin : (innerL l).length + 2 ≤ l.length ∧ (innerL l).count 40 + 1 ≤ l.count 40 := by
      have e1 := congrArg List.length ein
      have e2 := congrArg (List.count 40) ein
      rw [List.count_append, List.count_cons_self, List.count_append] at e2
      simp only [List.length_append, List.length_cons, List.length_nil] at e1
      omega
    refine ⟨_, rfl, _, rfl, tS (wordL l), rfl, by rw [tS_len]; omega, _, _, rfl, rfl, _, rfl, 1, rfl, _, rfl, y, rfl, by omega, by decide, fun L nL => ⟨_, _, _, rfl, ?_⟩⟩
    rw [tS_len, cut_inner hl c4 gl]
    have s3 := s2.trans (same_put (o := .lst [.str ""]) nL)
    generalize hI : innerL l = inn at rd lin ⊢
    refine ⟨fun σ' H' => ∃ (sg : Option V) (d : Int) (ps : List (List Nat)), σ' = [some (.str y), some (.str (tS (wordL l))), sg, some (.str (tS inn)), some (.int d), some (.ref L), none, none] ∧ Same H2 H' ∧ H' L = some (.lst (ps.map fun p => V.str (tS p))) ∧ scan inn 0 [[]] = some (d, ps) ∧ ps.length ≤ inn.length + 2, ?_, ?_⟩
    · refine ⟨_, rfl, tS inn, rfl, ?_⟩
      refine for_signs (fun i σ' G => ∃ (sg : Option V) (d : Int) (ps : List (List Nat)), σ' = [some (.str y), some (.str (tS (wordL l))), sg, some (.str (tS inn)), some (.int d), some (.ref L), none, none] ∧ Same H2 G ∧ G L = some (.lst (ps.map fun p => V.str (tS p))) ∧ ps ≠ [] ∧ scan inn 0 [[]] = scan (inn.drop i) d ps ∧ ps.length ≤ i + 1 ∧ ∀ p, p ∈ ps → p.length ≤ i) ⟨none, 0, [[]], rfl, same_put nL, upd_same, by simp, rfl, Nat.le_refl _, fun p hp => by rw [List.mem_singleton.mp hp]; exact Nat.le_refl _⟩ ?_ ?_
      · rintro i c σ' G hc ⟨sg, d, ps, rfl, sG, eL, ne, es, lp, pl⟩
        have hc2 : inn[i]? = some c := by
          have : inn.toArray[i]? = some c := hc
          simpa using this
        have li : i < inn.length := (List.getElem?_eq_some_iff.mp hc2).1
        have ed : inn.drop i = c :: inn.drop (i + 1) := by
          rw [List.drop_eq_getElem_cons li]
          congr 1
          exact Option.some.inj ((List.getElem?_eq_getElem li).symm.trans hc2)
        rw [ed, scan] at es
        have one : ∀ k : Nat, decide (V.str ⟨#[c]⟩ = V.str ⟨#[k]⟩) = decide (c = k) := fun k => by
          simp
        have one' : ∀ (x : Str) (k : Nat), x = ⟨#[k]⟩ → decide (V.str ⟨#[c]⟩ = V.str x) = decide (c = k) := fun x k e => by
          rw [e]
          exact one k
        dsimp only [gName]
        refine ⟨_, rfl, _, rfl, rfl, .inr ⟨_, rfl, _, _, rfl, rfl, _, rfl, rfl, .inr ⟨_, rfl, _, _, rfl, rfl, ?_⟩⟩⟩
        dsimp only [gName]
        rw [one' "(" 40 rfl, one' ")" 41 rfl]
        have ex : (d + (if decide (c = 40) = true then (1 : Int) else 0) - (if decide (c = 41) = true then (1 : Int) else 0)) = dpt d c := by
          unfold dpt
          simp
        rw [ex]
        refine ⟨_, rfl, _, _, rfl, rfl, _, rfl, ?_⟩
        have szz : ∀ q2 : List (List Nat), q2.length ≤ i + 2 → (q2.map fun p => V.str (tS p)).length < sizeLine := fun q2 h => by
          rw [List.length_map]
          omega
        by_cases d0 : dpt d c < 0
        · rw [decide_eq_true d0]
          rw [if_pos d0] at es
          exact iteT (no (by rw [rd, es]; rfl) G (s2.trans sG))
        rw [decide_eq_false d0]
        rw [if_neg d0] at es
        refine iteF ?_
        refine ⟨_, rfl, rfl, _, rfl, ?_⟩
        rw [one' "," 44 rfl]
        have other : ¬ (c = 44 ∧ dpt d c = 0) → ∀ σ9 : L2.St, σ9 = [some (.str y), some (.str (tS (wordL l))), some (.str ⟨#[c]⟩), some (.str (tS inn)), some (.int (dpt d c)), some (.ref L), none, none] → tAsg (tOp rAddS (tOp (rIxL K) (tVar 5) (tUn (rU fun i => .int (-i)) (tC (.int 1)))) (tVar 2)) (gSub (tVar 5) (tUn (rU fun i => .int (-i)) (tC (.int 1))) rSetL) { nx := fun σ' G => ∃ (sg : Option V) (d : Int) (ps : List (List Nat)), σ' = [some (.str y), some (.str (tS (wordL l))), sg, some (.str (tS inn)), some (.int d), some (.ref L), none, none] ∧ Same H2 G ∧ G L = some (.lst (ps.map fun p => V.str (tS p))) ∧ ps ≠ [] ∧ scan inn 0 [[]] = scan (inn.drop (i + 1)) d ps ∧ ps.length ≤ i + 1 + 1 ∧ ∀ p, p ∈ ps → p.length ≤ i + 1, rt := Q } σ9 G := fun no9 σ9 e9 => by
          subst e9
          rw [if_neg no9] at es
          obtain ⟨r, pz, epz⟩ : ∃ r pz, ps = r ++ [pz] := by
            rcases List.eq_nil_or_concat ps with z | ⟨i, c, z⟩
            · exact absurd z ne
            · exact ⟨i, c, by rw [z, List.concat_eq_append]⟩
          rw [epz, apL_snoc] at es
          rw [epz, List.map_append] at eL
          have lpz : pz.length ≤ i := pl pz (by rw [epz]; simp)
          refine ⟨_, rfl, 1, rfl, L, _, -1, .str (tS pz), rfl, rfl, SqL.of eL, atI_last _ _, _, rfl, _, _, rfl, rfl, ?_, _, rfl, 1, rfl, L, _, -1, (r.map fun p => V.str (tS p)).length, rfl, rfl, eL, ?_, some (.str ⟨#[c]⟩), dpt d c, r ++ [pz ++ [c]], rfl, fun b o hb => ?_, ?_, by simp, es, ?_, fun p hp => ?_⟩
          · rw [tS_len]
            show pz.length + 1 ≤ sizeLine
            omega
          · have := atI_last (r.map fun p => V.str (tS p)) (V.str (tS pz))
            rw [List.length_append]
            simp [ixN]
            constructor <;> omega
          · rw [upd_ne (ne_of_none hb nL)]
            exact sG b o hb
          · rw [upd_same]
            rw [List.map_append, List.set_append_right _ _ (by simp), Nat.sub_self]
            refine congrArg (fun z => some (HO.lst (_ ++ z))) ?_
            show [V.str (tS pz ++ tS [c])] = [V.str (tS (pz ++ [c]))]
            rw [tS_app]
          · rw [epz] at lp
            simp at lp ⊢
            omega
          · rcases List.mem_append.mp hp with hp | hp
            · have := pl p (by rw [epz]; exact List.mem_append_left _ hp)
              omega
            · rw [List.mem_singleton.mp hp, List.length_append]
              simp
              omega
        by_cases c44 : c = 44
        · rw [decide_eq_true c44]
          refine iteT ⟨_, rfl, rfl, _, rfl, ?_⟩
          by_cases dz : dpt d c = 0
          · rw [if_pos ⟨c44, dz⟩] at es
            rw [decide_eq_true (show V.int (dpt d c) = V.int 0 by rw [dz])]
            refine iteT ⟨_, rfl, .inl ⟨rfl, _, SqL.of eL⟩, L, _, .str "", rfl, rfl, eL, szz ps (by omega), some (.str ⟨#[c]⟩), dpt d c, ps ++ [[]], rfl, fun b o hb => ?_, ?_, by simp, es, ?_, fun p hp => ?_⟩
            · rw [upd_ne (ne_of_none hb nL)]
              exact sG b o hb
            · rw [upd_same]
              simp
              rfl
            · simp
              omega
            · rcases List.mem_append.mp hp with hp | hp
              · have := pl p hp
                omega
              · rw [List.mem_singleton.mp hp]
                simp
          · rw [decide_eq_false (show ¬ V.int (dpt d c) = V.int 0 from fun z => dz (V.int.inj z))]
            exact iteF (other (fun z => dz z.2) _ rfl)
        · rw [decide_eq_false c44]
          exact iteF (iteF (other (fun z => c44 z.1) _ rfl))
      · rintro σ' G ⟨sg, d, ps, rfl, sG, eL, ne, es, lp, pl⟩
        have esz2 : (tS inn).cps.size = inn.length := by
          show inn.toArray.size = _
          simp
        rw [esz2, List.drop_length] at es
        exact ⟨sg, d, ps, rfl, sG, eL, es, by omega⟩
    rintro σ' G ⟨sg, d, ps, rfl, sG, eL, es, lps⟩
    rw [es] at rd
    obtain ⟨j1, j2⟩ := scan_jn _ _ _ _ _ (by simp) es
    have j1 : jn ps = inn := j1
    have sub : ∀ p, p ∈ ps → p.length ≤ 2000 ∧ p.count 40 < n := fun p hp => by
      have := jn_sub hp
      rw [j1] at this
      omega
    let os : List (Option PyData) := ps.map fun p => if p = [] then none else readT n p
    have los : os.length = ps.length := List.length_map ..
    have fo : ∀ o, o ∈ os → ∀ d, o = some d → formedD d = true := fun o ho d e => by
      obtain ⟨p, hp, ep⟩ := List.mem_map.mp ho
      rw [e] at ep
      split at ep
      · cases ep
      · exact (read_sound n p d ep).2
    have pu : ∀ o, o ∈ os → pureD (optD o) = true := fun o ho => by
      cases e : o with
      | none => rfl
      | some d => exact pure_formed d (fo o ho d e)
    refine ⟨_, rfl, L, rfl, ⟨_, SqL.of eL⟩, fun D2 nD2 => ?_⟩
    refine lc_list (K := K) (a := L) (xs := ps.map fun p => V.str (tS p)) (fun i G2 => Same G G2 ∧ ∃ vs, G2 D2 = some (.lst vs) ∧ DxAll K G2 vs ((os.take i).map optD)) ⟨same_put nD2, [], upd_same, .nil⟩ (fun i G2 _ h => SqL.of (h.1 _ _ eL)) ?_ ?_
    · rintro i x G2 hi ⟨s2', vs, eD2', dv⟩
      rw [List.getElem?_map] at hi
      obtain ⟨p, hp, rfl⟩ := Option.map_eq_some_iff.mp hi
      have li : i < ps.length := (List.getElem?_eq_some_iff.mp hp).1
      have mp : p ∈ ps := List.mem_of_getElem? hp
      have eo : os[i]? = some (if p = [] then none else readT n p) := by
        show (ps.map _)[i]? = _
        rw [List.getElem?_map, hp]
        rfl
      have mo : (if p = [] then none else readT n p) ∈ os := List.mem_of_getElem? eo
      have fin : ∀ v G3, Same G2 G3 → Dx K G3 v (optD (if p = [] then none else readT n p)) → ∃ acc, G3 D2 = some (.lst acc) ∧ acc.length < sizeLine ∧ (Same G (upd G3 D2 (.lst (acc ++ [v]))) ∧ ∃ vs, (upd G3 D2 (.lst (acc ++ [v]))) D2 = some (.lst vs) ∧ DxAll K (upd G3 D2 (.lst (acc ++ [v]))) vs ((os.take (i + 1)).map optD)) := fun v G3 s3' dv3 => by
        have e3 := s3' _ _ eD2'
        have lv := dv.length
        rw [List.length_map, List.length_take] at lv
        refine ⟨vs, e3, by omega, fun b o hb => ?_, vs ++ [v], upd_same, ?_⟩
        · rw [upd_ne (ne_of_none hb nD2)]
          exact s3' _ _ (s2' b o hb)
        · rw [List.take_add_one, eo, Option.toList_some, List.map_append]
          have pa : ∀ l : List (Option PyData), (∀ o, o ∈ l → pureD (optD o) = true) → pureAll (l.map optD) = true := fun l => by
            induction l with
            | nil => intro _; rfl
            | cons o l ih => intro h; rw [List.map_cons, pureAll, h o List.mem_cons_self, ih fun z hz => h z (List.mem_cons_of_mem _ hz)]; rfl
          exact DxAll.append (DxAll.ts (Tups.lst e3) _ _ (pa _ fun o ho => pu o (List.mem_of_mem_take ho)) (dv.up s3')) (.cons (Dx.ts (Tups.lst e3) _ _ (pu _ mo) dv3) .nil)
      refine ⟨rfl, (iteT (B := False) ?_ : if true = true then _ else False)⟩
      refine ⟨_, rfl, rfl, _, rfl, ?_⟩
      by_cases ep : p = []
      · subst ep
        refine iteF ?_
        exact fin .non G2 (Same.refl _) .non
      · have e1 : (!decide (V.str (tS p) = V.str "")) = true := by
          simp only [Bool.not_eq_true', decide_eq_false_iff_not]
          intro z
          exact ep (tS_inj (m := []) (V.str.inj z))
        rw [e1]
        obtain ⟨l1, l2⟩ := sub p mp
        refine iteT ⟨_, rfl, tS p, rfl, by rw [tS_len]; exact l1, by show (p.toArray.toList).count 40 < n; simpa using l2, fun v G3 s3' dv3 => ?_⟩
        refine fin v G3 s3' ?_
        rw [if_neg ep]
        have : (tS p).cps.toList = p := List.toList_toArray ..
        rwa [this] at dv3
    rintro G2 ⟨s2', vs, eD2', dv⟩
    rw [List.length_map, ← los, List.take_length] at dv
    have lv := dv.length
    rw [List.length_map, los] at lv
    dsimp only [gName]
    have sZ := s2.trans (sG.trans s2')
    have rd : readT (n + 1) l = if d ≠ 0 ∨ 3 < ps.length then none else (allS os).map fun ds => .tuple (.str (tS (wordL l)) :: ds) := rd
    refine ⟨_, rfl, rfl, _, rfl, ?_⟩
    by_cases dz : d = 0
    rotate_left
    · rw [show (!decide (V.int d = V.int 0)) = true by simpa using dz]
      exact iteT (iteT (no (by rw [rd, if_pos (.inl dz)]) G2 sZ))
    rw [show (!decide (V.int d = V.int 0)) = false by simpa using dz]
    refine iteF ⟨_, rfl, D2, _, rfl, .inl (SqL.of eD2'), _, _, rfl, rfl, _, rfl, ?_⟩
    by_cases l3 : 3 < ps.length
    · rw [decide_eq_true (show (3 : Int) < (vs.length : Int) by omega)]
      exact iteT (iteT (no (by rw [rd, if_pos (.inr l3)]) G2 sZ))
    rw [decide_eq_false (show ¬ (3 : Int) < (vs.length : Int) by omega)]
    rw [if_neg (fun z => z.elim (fun z => z dz) l3)] at rd
    have lay : ∀ os : List (Option PyData), (∀ o, o ∈ os → ∀ d, o = some d → formedD d = true) → PyData.canLayAll0 (os.map optD) = true ∧ PyData.hasDictAll (os.map optD) = false := fun os => by
      induction os with
      | nil => intro _; exact ⟨rfl, rfl⟩
      | cons o os ih =>
        intro h
        obtain ⟨i1, i2⟩ := ih fun z hz => h z (List.mem_cons_of_mem _ hz)
        have ho : (optD o).canLay0 = true ∧ (optD o).hasDict = false := by
          cases e : o with
          | none => exact ⟨rfl, rfl⟩
          | some d =>
            have f := h o List.mem_cons_self d e
            exact lay_formed d f
        rw [List.map_cons]
        simp [PyData.canLayAll0, PyData.hasDictAll, i1, i2, ho.1, ho.2]
    obtain ⟨y1, y2⟩ := lay os fo
    refine iteF ⟨_, rfl, os.map optD, rfl, .lst (SqL.of eD2') (DxAll.dp y2 dv), y1, _, rfl, ?_⟩
    rw [none_in os fun o ho d e z => by have := fo o ho d e; rw [z] at this; cases this]
    cases ea : allS os with
    | none => exact iteT (no (by rw [rd, ea]; rfl) G2 sZ)
    | some ds =>
      have eos := allS_some ea
      have emap : os.map optD = ds := by
        rw [eos, List.map_map]
        show ds.map (fun d => d) = ds
        simp
      rw [emap] at dv
      have q2 := fun v H' s' (h : Dx K H' v (.tuple (.str (tS (wordL l)) :: ds))) => q v H' (s1.trans s') (by rw [rd, ea]; exact h)
      refine iteF ⟨_, rfl, by show 1 ≤ sizeLine; omega, fun t nt => ⟨_, rfl, D2, vs, rfl, .inl ⟨SqL.of (same_put nt _ _ eD2'), fun u nu => ?_⟩⟩⟩
      have st := same_put (o := .tup [V.str (tS (wordL l))]) nt
      have su := same_put (o := .tup vs) nu
      refine ⟨t, u, _, _, rfl, rfl, SqT.of (su _ _ upd_same), SqT.of upd_same, by simp; omega, fun z => (nomatch z), fun _ ev => ?_, fun _ ev v nv => ?_⟩
      · subst ev
        have : ds = [] := List.eq_nil_of_length_eq_zero (by have := dv.length; simpa using this.symm)
        subst this
        exact q2 _ _ (sZ.trans (st.trans su)) (.tup (su _ _ upd_same) (.cons (.str _) .nil))
      · have sv := same_put (o := .tup ([V.str (tS (wordL l))] ++ vs)) nv
        exact q2 _ _ (sZ.trans (st.trans (su.trans sv))) (.tup upd_same (.cons (.str _) (dv.up (st.trans (su.trans sv)))))
end
end K13
/-! _law_pair_read. -/
namespace K13
open PySem PySem.Spec PyProof.Rows L2 Kx
mutual
theorem depth_cnt : ∀ (d : PyData), formedD d = true → d.depth ≤ (tx d).count 40 + 1
  | .none, h => by cases h
  | .bool _, h => by cases h
  | .int _, h => by cases h
  | .str _, h => by cases h
  | .list _, h => by cases h
  | .dict _, h => by cases h
  | .tuple [], h => by cases h
  | .tuple (d :: ds), h => by
    simp only [formedD, Bool.and_eq_true] at h
    cases d with
    | str x =>
      have e : tx (.tuple (.str x :: ds)) = x.cps.toList ++ txA ds := rfl
      have := depthA_cnt ds h.2
      rw [e, List.count_append]
      simp only [PyData.depth, PyData.depthAll]
      omega
    | _ => cases h.1.2
theorem depthA_cnt : ∀ (ds : List PyData), formedAll ds = true → PyData.depthAll ds ≤ (txA ds).count 40
  | [], _ => by simp [PyData.depthAll]
  | e :: es, h => by
    simp only [formedAll, Bool.and_eq_true] at h
    have h1 := depth_cnt e h.1
    have h2 := depthM_cnt es h.2
    rw [show txA (e :: es) = 40 :: (tx e ++ (txM es ++ [41])) from rfl, List.count_cons_self, List.count_append, List.count_append]
    simp only [PyData.depthAll]
    omega
theorem depthM_cnt : ∀ (ds : List PyData), formedAll ds = true → PyData.depthAll ds ≤ (txM ds).count 40 + 1
  | [], _ => by simp [PyData.depthAll]
  | e :: es, h => by
    simp only [formedAll, Bool.and_eq_true] at h
    have h1 := depth_cnt e h.1
    have h2 := depthM_cnt es h.2
    rw [show txM (e :: es) = 44 :: (tx e ++ txM es) from rfl, List.count_cons_of_ne (by decide), List.count_append]
    simp only [PyData.depthAll]
    omega
end
theorem read_depth {n : Nat} {x : Str} {d : PyData} (h : readT n x.cps.toList = some d) (c : cnt 40 x < n) : d.depth ≤ n ∧ formedD d = true := by
  obtain ⟨e, f⟩ := read_sound _ _ _ h
  have := depth_cnt d f
  rw [← e] at this
  exact ⟨Nat.le_trans this c, f⟩
theorem optD_none {o : Option PyData} (h : ∀ d, o = some d → d ≠ .none) : optD o = .none ↔ o = none := by
  cases o with
  | none => exact ⟨fun _ => rfl, fun _ => rfl⟩
  | some d => exact ⟨fun e => absurd e (h d rfl), fun e => by cases e⟩
section
variable {P : Program} {w : World} {K : PySem.W.Frag} {mg : Str → Option Value} {base : Heap}
def spPd (K : PySem.W.Frag) (n : Nat) : Sp := fun vs H Q _ => ∃ (x : Str), vs = [.str x] ∧ x.length ≤ 2000 ∧ cnt 40 x < n ∧ ∀ v H', Same H H' → Dx K H' v (optD (pairT n x)) → Q v H'
theorem ok_pd (T : Tx K mg) (n : Nat) (n9 : n ≤ 180) : FnOk P w K mg base CX0 (n + 2) T.a_law_pair_read T.d_law_pair_read ["text"] (spPd K n) := by
  have nd := sc__law_pair_read.nd
  have G := ok_tr (P := P) (w := w) (base := base) T n
  refine T.f_law_pair_read.ok sc__law_pair_read (fun vs H Q E h => ?_) (fun cdv A outer s H vs Q E hr h => ?_)
  · obtain ⟨x, rfl, _⟩ := h
    rfl
  obtain ⟨y, rfl, ly, cy, q⟩ := h
  refine ⟨_, (pss_cons (ps_set (i := 1) nd rfl (.inl rfl) (pe_bm PySem.F.plainAttrs_str PySem.F.slot_str_split PySem.F.type_str_split mt_split (pv 0) (pa_cons pe_str pa_nil)))
      (pss_cons (ps_if (PW.pt (pw_or (pt_cmpR op_ne (pe_callB call_len_seq (by rfl) T.b_len (by decide +kernel) (pa_cons (pv 1) pa_nil)) pe_int (nomark _)) (pw_or1 (pt_cmpR op_in_seq pe_str (pv 1) (by rfl))))) (pss_one (ps_ret pe_non)) pss_nil)
      (pss_cons (ps_par (i := 2) (j := 3) (by rfl) nd rfl rfl (by decide) rfl rfl (pa_cons (pe_call G (hr.mono (by omega)) (by rfl) T.g_law_term_read T.f_law_term_read.kp T.n_law_term_read .nil pass0 (pa_cons (pe_ix ix_list (pv 1) pe_int (fun _ _ => rfl)) pa_nil)) (pa_cons (pe_call G (hr.mono (by omega)) (by rfl) T.g_law_term_read T.f_law_term_read.kp T.n_law_term_read .nil pass0 (pa_cons (pe_ix ix_list (pv 1) pe_int (fun _ _ => rfl)) pa_nil)) pa_nil)) (by rfl))
      (pss_one (ps_ret (pe_ifExp (PW.pt (pw_or (pt_cmpR op_isN (pv 2) pe_non (nomark _)) (pw_or (pt_cmpR op_isN (pv 3) pe_non (nomark _)) (pw_or1 (pt_not (pt_cmpR (op_ltF (room200 hr)) (pv 2) (pv 3) (nomark _))))))) pe_non (pe_tup (pa_cons (pv 2) (pa_cons (pv 3) pa_nil))))))))), ?_⟩
  have sz : 10000 ≤ sizeLine := by decide
  refine ⟨_, rfl, rfl, y, "=", rfl, rfl, rfl, by omega, fun p np => ?_⟩
  have s1 := same_put (o := .lst ((Txt.split y "=").map V.str)) np
  have hp : (upd H p (.lst ((Txt.split y "=").map V.str))) p = some (.lst ((Txt.split y "=").map V.str)) := upd_same
  have lp : ∀ z, z ∈ Txt.split y "=" → z.length ≤ 2000 := fun z hz => Nat.le_trans (split_le hz) ly
  have cp : ∀ a b, Txt.split y "=" = [a, b] → cnt 40 a < n ∧ cnt 40 b < n := fun a b e => by
    have := side_cnt 40 e
    omega
  unfold pairT at q
  generalize Txt.split y "=" = ps at s1 hp lp cp q ⊢
  generalize upd H p (.lst (ps.map V.str)) = H1 at s1 hp ⊢
  dsimp only [gName]
  refine ⟨_, rfl, p, _, rfl, .inl (SqL.of hp), rfl, _, rfl, ?_⟩
  by_cases e : ∃ a b, ps = [a, b]
  rotate_left
  · have bad : (!decide (V.int (((ps.map V.str).length : Nat) : Int) = V.int 2)) = true := by
      rw [Bool.not_eq_true', decide_eq_false_iff_not]
      intro z
      have z := V.int.inj z
      rw [List.length_map] at z
      match ps, e, z with
      | [], _, z => simp at z
      | [_], _, z => simp at z
      | [a, b], e, _ => exact e ⟨a, b, rfl⟩
      | _ :: _ :: _ :: _, _, z => simp at z; omega
    rw [bad]
    refine iteT (iteT (q .non H1 s1 ?_))
    match ps, e with
    | [], _ => exact .non
    | [_], _ => exact .non
    | [a, b], e => exact absurd ⟨a, b, rfl⟩ e
    | _ :: _ :: _ :: _, _ => exact .non
  obtain ⟨a, b, rfl⟩ := e
  obtain ⟨ca, cb⟩ := cp a b rfl
  have la := lp a (by simp)
  have lb := lp b (by simp)
  refine iteF ⟨_, rfl, p, _, rfl, .inl (SqL.of hp), rfl, rfl, _, rfl, ?_⟩
  have q : ∀ v H', Same H H' → Dx K H' v (optD ((readT n a.cps.toList).bind fun d => (readT n b.cps.toList).bind fun e => if ltR d e then some (PyData.tuple [d, e]) else none)) → Q v H' := q
  have re : ∀ x : Str, x = "" → readT n x.cps.toList = none := fun x e => by
    subst e
    cases n with
    | zero => rfl
    | succ n => rw [readT, if_pos (by decide)]
  have em : inV (V.str "") ([a, b].map V.str) = (decide (a = "") || decide (b = "")) := by
    rw [Bool.eq_iff_iff]
    simp [inV, eqV]
  rw [show (if false = true then !inV (V.str "") ([a, b].map V.str) else inV (V.str "") ([a, b].map V.str)) = inV (V.str "") ([a, b].map V.str) from rfl, em]
  by_cases e0 : a = "" ∨ b = ""
  · rw [show (decide (a = "") || decide (b = "")) = true by simpa using e0]
    refine iteT (q .non H1 s1 ?_)
    rcases e0 with e | e
    · rw [re a e]; exact .non
    · rw [re b e]
      cases readT n a.cps.toList <;> exact .non
  rw [show (decide (a = "") || decide (b = "")) = false by simpa using e0]
  refine iteF ⟨_, rfl, p, _, 0, .str a, rfl, rfl, SqL.of hp, atI_nat (j := 0) rfl, a, rfl, la, ca, fun u H2 s2 du => ⟨_, rfl, p, _, 1, .str b, rfl, rfl, SqL.of (s2 _ _ hp), atI_nat (j := 1) rfl, b, rfl, lb, cb, fun v H3 s3 dv => ⟨_, _, rfl, ?_⟩⟩⟩
  have s13 := s1.trans (s2.trans s3)
  have du := du.up s3
  have fm : ∀ (x : Str), cnt 40 x < n → ∀ d, readT n x.cps.toList = some d → d ≠ .none := fun x cx d h z => by
    have := (read_depth h cx).2
    rw [z] at this
    cases this
  refine ⟨_, rfl, rfl, _, rfl, ?_⟩
  cases ra : readT n a.cps.toList with
  | none =>
    rw [ra] at du q
    cases du
    exact iteT (iteT (q .non H3 s13 .non))
  | some d =>
  rw [ra] at du q
  have du : Dx K H3 u d := du
  rw [decide_eq_false (fun z => fm a ca d ra ((dx_nil du).mpr z))]
  refine iteF ⟨_, rfl, rfl, _, rfl, ?_⟩
  cases rb : readT n b.cps.toList with
  | none =>
    rw [rb] at dv q
    cases dv
    exact iteT (iteT (q .non H3 s13 .non))
  | some e =>
  rw [rb] at dv q
  have dv : Dx K H3 v e := dv
  rw [decide_eq_false (fun z => fm b cb e rb ((dx_nil dv).mpr z))]
  obtain ⟨pd, fd⟩ := read_depth ra ca
  obtain ⟨pe, fe⟩ := read_depth rb cb
  refine iteF ⟨_, rfl, _, rfl, d, e, du, dv, alike_formed d e fd fe, fm a ca d ra, by omega, _, rfl, ?_⟩
  have q : ∀ v H', Same H H' → Dx K H' v (optD (if ltR d e then some (PyData.tuple [d, e]) else none)) → Q v H' := q
  cases lt : PySem.W.dataLt d e with
  | false =>
    rw [if_neg (fun z => by unfold ltR at z; rw [lt] at z; cases z)] at q
    exact iteT (q .non H3 s13 .non)
  | true =>
    rw [if_pos (show ltR d e from lt)] at q
    refine iteF ⟨_, rfl, _, rfl, by show 2 ≤ sizeLine; omega, fun t nt => ?_⟩
    have st := same_put (o := .tup [u, v]) nt
    exact q _ _ (s13.trans st) (.tup upd_same (.cons (du.up st) (.cons (dv.up st) .nil)))
end
end K13
/-! _law_count. -/
namespace K13
open PySem PySem.Spec PyProof.Rows L2 Kx
def upC (p : NK) : NK := (p.1, p.2 + 1)
def dictC (m : List NK) : List (Key × V) := dictOf (m.map upC)
theorem valC_some {x : Str} {v : V} {m : List NK} (h : valV (dictC m) (Sum.inr x) = some v) : ∃ k, (x, k) ∈ m ∧ v = .int ((k : Int) + 1) := by
  obtain ⟨k, hk, rfl⟩ := val_some h
  obtain ⟨p, hp, e⟩ := List.mem_map.mp hk
  injection e with e1 e2
  subst e1 e2
  exact ⟨p.2, hp, by simp⟩
theorem valC_none {x : Str} {m : List NK} (h : valV (dictC m) (Sum.inr x) = none) : ∀ k, (x, k) ∉ m := fun k z => val_none h (k + 1) (List.mem_map.mpr ⟨(x, k), z, rfl⟩)
theorem cut_tail (v0 : V) (ws : List V) : ¬ (HT.sIx (v0 :: ws).length 0 (some 1) = 0 ∧ HT.sIx (v0 :: ws).length (v0 :: ws).length none = (v0 :: ws).length) ∧ cutV (v0 :: ws) (some 1) none = ws := by
  have h1 : HT.sIx (v0 :: ws).length 0 (some 1) = 1 := by
    simp only [HT.sIx, List.length_cons]
    split <;> omega
  have h2 : HT.sIx (v0 :: ws).length (v0 :: ws).length none = (v0 :: ws).length := rfl
  refine ⟨fun z => ?_, ?_⟩
  · rw [h1] at z
    cases z.1
  · unfold cutV
    rw [h1, h2]
    simp
theorem tups_but {a : Addr} {H H' : Hp} {kvs : List (Key × V)} (x : But a H H') (h : H a = some (.dK kvs)) : Tups H H' := fun b xs e => x b _ e (ne_of e h (fun z => nomatch z))
theorem formed_mem : ∀ {ds : List PyData} {d : PyData}, formedAll ds = true → d ∈ ds → formedD d = true
  | e :: es, d, h, hd => by
    rw [formedAll, Bool.and_eq_true] at h
    rcases List.mem_cons.mp hd with rfl | hd
    · exact h.1
    · exact formed_mem h.2 hd
theorem depth_mem : ∀ {ds : List PyData} {d : PyData}, d ∈ ds → d.depth ≤ PyData.depthAll ds
  | e :: es, d, hd => by
    rw [PyData.depthAll]
    rcases List.mem_cons.mp hd with rfl | hd
    · omega
    · have := depth_mem hd
      omega
/-- the counts after a term -/
structure Ct (ms rs ms' : List NK) (b : Bool) : Prop where
  fn : Func ms'
  old : ∀ p, p ∈ ms → p ∈ ms'
  sub : ∀ p, p ∈ ms' → p ∈ ms ∨ p ∈ rs
  yes : b = true → ∀ p, p ∈ rs → p ∈ ms'
  no : b = false → ¬ Func (ms ++ rs)
theorem rowsAll_take2 {ds : List PyData} {i : Nat} {d : PyData} (h : ds[i]? = some d) : rowsAll (ds.take (i + 1)) = rowsAll (ds.take i) ++ rowsD d := by
  rw [List.take_add_one, h, Option.toList_some, rowsAll_append]
  simp [rowsAll]
theorem bools_in : ∀ bs : List Bool, inV (.bl false) (bs.map V.bl) = !bs.all id
  | [] => rfl
  | b :: bs => by
    have ih := bools_in bs
    show (eqV (.bl b) (.bl false) || inV (.bl false) (bs.map V.bl)) = _
    rw [ih]
    cases b <;> rfl
section
variable {P : Program} {w : World} {K : PySem.W.Frag} {mg : Str → Option Value} {base : Heap}
def spCt (K : PySem.W.Frag) (n : Nat) : Sp := fun vs H Q _ => ∃ (x : V) (a : Addr) (d : PyData) (ms : List NK), vs = [x, .ref a] ∧ Dx K H x d ∧ formedD d = true ∧ d.depth ≤ n ∧ H a = some (.dK (dictC ms)) ∧ Func ms ∧ ms.length + szD d ≤ 1000000 ∧
  ∀ b ms' H', But a H H' → H' a = some (.dK (dictC ms')) → ms'.length ≤ ms.length + szD d → Ct ms (rowsD d) ms' b → Q (.bl b) H'
theorem ok_ct (T : Tx K mg) : ∀ n, FnOk P w K mg base CX0 (n + 1) T.a_law_count T.d_law_count ["term", "counts"] (spCt K n)
  | 0 => by
    refine T.f_law_count.ok sc__law_count (fun vs H Q E h => ?_) (fun cdv A outer s H vs Q E hr h => ?_)
    · obtain ⟨x, a, d, ms, rfl, _⟩ := h
      rfl
    · exfalso
      obtain ⟨x, a, d, ms, rfl, hx, hf, hd, _⟩ := h
      obtain ⟨z, ds, rfl, _⟩ := formed_shape hf
      simp [PyData.depth] at hd
  | n + 1 => by
    have nd := sc__law_count.nd
    have G := ok_ct T n
    refine T.f_law_count.ok sc__law_count (fun vs H Q E h => ?_) (fun cdv A outer s H vs Q E hr h => ?_)
    · obtain ⟨x, a, d, ms, rfl, _⟩ := h
      rfl
    obtain ⟨x, a, d, ms, rfl, hx, hf, hd, ha, fn, sz0, q⟩ := h
    obtain ⟨nm, ds, rfl, l3, hnm, hfa⟩ := formed_shape hf
    cases hx with
    | @tup t xs _ ht hs =>
    cases hs with
    | @cons v0 ws _ _ h0 hw =>
    cases h0
    have lw := hw.length
    have hdd : PyData.depthAll ds ≤ n := by
      simp only [PyData.depth, PyData.depthAll] at hd
      omega
    refine ⟨_, (pss_cons (ps_if (pt_cmpR op_ne (pe_dsetd (pv 1) (pe_ix ix_tup (pv 0) pe_int (fun _ _ => rfl)) (pe_callB call_len_seq (by rfl) T.b_len (by decide +kernel) (pa_cons (pv 0) pa_nil)) ⟨by rfl, by rfl, by rfl, by rfl⟩) (pe_callB call_len_seq (by rfl) T.b_len (by decide +kernel) (pa_cons (pv 0) pa_nil)) (nomark _)) (pss_one (ps_ret pe_bl)) pss_nil)
      (pss_one (ps_ret (pe_cmpR op_notIn_seq pe_bl (pe_lc (own := [("part", 2)]) (g := (gName 2)) (tt := tYes) (by rfl) nd (pi_tup (pe_slice sl_tupA (pv 0) (po_some pe_int) po_none)) (blkOk_by (own := [("part", 2)]) (N := N__law_count) (sc := defScope s__law_count) (by decide +kernel)) (fun _ _ _ _ _ => pg_name (i := 2) nd rfl (.inl rfl)) (fun _ _ _ _ _ => pts_nil) (fun _ _ _ _ _ => (pe_call G (hr.mono (by omega)) (by rfl) T.g_law_count T.f_law_count.kp T.n_law_count .nil pass0 (pa_cons (pv 2) (pa_cons (pv 1) pa_nil))))) (by rfl))))), ?_⟩
    have szl : 1000010 ≤ sizeLine := by decide
    have zd : szD (.tuple (.str nm :: ds)) = szAll ds + 2 := by simp only [szD, szAll]; omega
    rw [zd] at sz0 q
    have er : rowsD (.tuple (.str nm :: ds)) = (nm, ds.length) :: rowsAll ds := rfl
    rw [er] at q
    have el : (((V.str nm :: ws).length : Nat) : Int) = (ds.length : Int) + 1 := by
      rw [List.length_cons, lw]
      omega
    have ldc : (dictC ms).length < sizeLine := by
      rw [dictC, dictOf, List.length_map, List.length_map]
      omega
    -- after the name is counted
    have rest : ∀ (ms1 : List NK) (H1 : Hp), But a H H1 → H1 a = some (.dK (dictC ms1)) → Func ms1 → (∀ p, p ∈ ms1 ↔ p ∈ ms ∨ p = (nm, ds.length)) → ms1.length ≤ ms.length + 1 →
        tRet (tOp (rIn K true) (tC (.bl false)) (tLc (iTup K (tSl (rSlA K) (tVar 0) (tPart (tC (.int 1))) tNoPart)) (gName 2) tYes (tCall (spCt K n) [] E0 (tCons (tVar 2) (tCons (tVar 1) tNil))) [2])) { nx := fun _ H' => Q .non H', rt := Q } [some (.ref t), some (.ref a), none] H1 := fun ms1 H1 b1 ha1 fn1 mem1 len1 => by
      obtain ⟨c1, c2⟩ := cut_tail (.str nm) ws
      have tA := tups_but b1 ha
      refine ⟨_, rfl, 1, rfl, t, _, rfl, SqT.of (tA _ _ ht), fun z => absurd z c1, fun _ u nu => ⟨u, rfl, ⟨_, SqT.of upd_same⟩, fun D nD => ?_⟩⟩
      rw [c2] at nD ⊢
      have su := same_put (o := .tup ws) nu
      have hu2 : (upd H1 u (.tup ws)) u = some (.tup ws) := upd_same
      have hw2 := (DxAll.ts (tA.trans (Tups.of su)) _ _ (pure_formedAll ds hfa) hw)
      have ha2 := su _ _ ha1
      have b2 : But a H (upd H1 u (.tup ws)) := b1.trans (But.of su)
      generalize upd H1 u (.tup ws) = H2 at su hu2 hw2 ha2 b2 nD ⊢
      have nDa : D ≠ a := fun z => by rw [z, ha2] at nD; cases nD
      refine lc_tup (K := K) (a := u) (xs := ws) (fun i G => (∀ b o, H2 b = some o → b ≠ a → G b = some o) ∧ ∃ (bs : List Bool) (ms' : List NK), G D = some (.lst (bs.map V.bl)) ∧ bs.length = i ∧ G a = some (.dK (dictC ms')) ∧ ms'.length ≤ ms1.length + szAll (ds.take i) ∧ Ct ms1 (rowsAll (ds.take i)) ms' (bs.all id)) ⟨fun b o hb _ => same_put nD b o hb, [], ms1, upd_same, rfl, same_put nD _ _ ha2, by simp [szAll], ⟨fn1, fun p h => h, fun p h => .inl h, fun _ p h => by simp [rowsAll] at h, fun h => by cases h⟩⟩ (fun i G _ h => SqT.of (h.1 _ _ hu2 (ne_of hu2 ha2 (fun z => nomatch z)))) ?_ ?_
      · rintro i x G hi ⟨bG, bs, ms', eD, lb, ea, lm, ct⟩
        have li : i < ds.length := by rw [← lw]; exact (List.getElem?_eq_some_iff.mp hi).1
        have gd := List.getElem?_eq_getElem li
        have tG : Tups H2 G := tups_but bG ha2
        obtain ⟨v, hv, dv⟩ := hw2.get gd
        rw [hi] at hv
        cases hv
        have fd : formedD ds[i] = true := formed_mem hfa (List.getElem_mem li)
        have dd : ds[i].depth ≤ n := Nat.le_trans (depth_mem (List.getElem_mem li)) hdd
        have zt : szAll (ds.take i) + szD ds[i] + szAll (ds.drop (i + 1)) = szAll ds := by
          conv => rhs; rw [← List.take_append_drop i ds, List.drop_eq_getElem_cons li, szAll_append, szAll]
          omega
        refine ⟨rfl, (iteT (B := False) ?_ : if true = true then _ else False)⟩
        refine ⟨_, rfl, _, rfl, x, a, ds[i], ms', rfl, Dx.ts tG _ _ (pure_formed _ fd) dv, fd, dd, ea, ct.fn, by omega, fun b ms2 G2 bG2 ea2 lm2 ct2 => ?_⟩
        have eD2 := bG2 _ _ eD nDa
        refine ⟨_, eD2, by rw [List.length_map]; omega, fun b' o hb na => ?_, bs ++ [b], ms2, ?_, by simp [lb], ?_, ?_, ?_⟩
        · rw [upd_ne (ne_of_none hb nD)]
          exact bG2 _ _ (bG b' o hb na) na
        · rw [upd_same]
          simp
        · rw [upd_ne nDa.symm]
          exact ea2
        · rw [List.take_add_one, gd, Option.toList_some, szAll_append]
          simp only [szAll]
          omega
        · rw [rowsAll_take2 gd]
          refine ⟨ct2.fn, fun p h => ct2.old p (ct.old p h), fun p h => ?_, fun e p h => ?_, fun e F => ?_⟩
          · rcases ct2.sub p h with h | h
            · rcases ct.sub p h with h | h
              · exact .inl h
              · exact .inr (List.mem_append_left _ h)
            · exact .inr (List.mem_append_right _ h)
          · rw [List.all_append, Bool.and_eq_true] at e
            rcases List.mem_append.mp h with h | h
            · exact ct2.old p (ct.yes e.1 p h)
            · exact ct2.yes (by simpa using e.2) p h
          · rw [List.all_append] at e
            cases e1 : bs.all id with
            | false => exact ct.no e1 (F.sub fun p hp => by
                rcases List.mem_append.mp hp with hp | hp
                · exact List.mem_append_left _ hp
                · exact List.mem_append_right _ (List.mem_append_left _ hp))
            | true =>
              rw [e1] at e
              refine ct2.no (by simpa using e) (F.sub fun p hp => ?_)
              rcases List.mem_append.mp hp with hp | hp
              · rcases ct.sub p hp with hp | hp
                · exact List.mem_append_left _ hp
                · exact List.mem_append_right _ (List.mem_append_left _ hp)
              · exact List.mem_append_right _ (List.mem_append_right _ hp)
      · rintro G ⟨bG, bs, ms', eD, lb, ea, lm, ct⟩
        rw [lw, List.take_length] at lm ct
        refine ⟨D, bs.map V.bl, rfl, .inl (SqL.of eD), rfl, by simp [flatV], ?_⟩
        have e1 : (if true = true then !inV (.bl false) (bs.map V.bl) else inV (.bl false) (bs.map V.bl)) = bs.all id := by
          rw [if_pos rfl, bools_in, Bool.not_not]
        rw [e1]
        refine q _ ms' G (b2.trans bG) ea (by omega) ⟨ct.fn, fun p h => ct.old p ((mem1 p).mpr (.inl h)), fun p h => ?_, fun e p h => ?_, fun e F => ct.no e (F.sub fun p hp => ?_)⟩
        · rcases ct.sub p h with h | h
          · rcases (mem1 p).mp h with h | h
            · exact .inl h
            · exact .inr (by rw [h]; exact List.mem_cons_self)
          · exact .inr (List.mem_cons_of_mem _ h)
        · rcases List.mem_cons.mp h with h | h
          · exact ct.old p ((mem1 p).mpr (.inr h))
          · exact ct.yes e p h
        · rcases List.mem_append.mp hp with hp | hp
          · rcases (mem1 p).mp hp with hp | hp
            · exact List.mem_append_left _ hp
            · exact List.mem_append_right _ (by rw [hp]; exact List.mem_cons_self)
          · exact List.mem_append_right _ (List.mem_cons_of_mem _ hp)
    refine ⟨_, rfl, a, rfl, .inl ⟨_, .inl ha⟩, _, rfl, t, _, 0, .str nm, rfl, rfl, SqT.of ht, atI_nat (j := 0) rfl, _, rfl, t, _, rfl, .inr (SqT.of ht), dictC ms, Sum.inr nm, ha, rfl, ldc, fun y hy => ?_, fun hy => ?_⟩
    · obtain ⟨k, mem, rfl⟩ := valC_some hy
      refine ⟨_, rfl, t, _, rfl, .inr (SqT.of ht), rfl, _, rfl, ?_⟩
      rw [el]
      by_cases hk : k = ds.length
      · subst hk
        rw [show (!decide (V.int ((ds.length : Int) + 1) = V.int ((ds.length : Int) + 1))) = false by simp]
        exact iteF (rest ms H (But.refl a H) ha fn (fun p => ⟨.inl, fun z => z.elim id fun z => by rw [z]; exact mem⟩) (Nat.le_succ _))
      · rw [show (!decide (V.int ((k : Int) + 1) = V.int ((ds.length : Int) + 1))) = true by simp; omega]
        refine iteT (q _ ms H (But.refl a H) ha (by omega) ⟨fn, fun p h => h, fun p h => .inl h, fun z => (nomatch z), fun _ F => ?_⟩)
        exact hk (F (nm, k) (List.mem_append_left _ mem) (nm, ds.length) (List.mem_append_right _ List.mem_cons_self) rfl)
    · have nk := valC_none hy
      rw [el]
      have bu : ∀ o, But a H (upd H a o) := fun o b o' hb na => by
        rw [upd_ne na]
        exact hb
      refine ⟨_, rfl, t, _, rfl, .inr (SqT.of (bu _ _ _ ht (ne_of ht ha (fun z => nomatch z)))), rfl, _, rfl, ?_⟩
      rw [el, show (!decide (V.int ((ds.length : Int) + 1) = V.int ((ds.length : Int) + 1))) = false by simp]
      refine iteF (rest (ms ++ [(nm, ds.length)]) _ (bu _) ?_ ?_ (fun p => by simp) (by simp))
      · rw [upd_same, putK_new _ hy]
        simp [dictC, dictOf, upC]
      · rintro ⟨p1, p2⟩ hp ⟨r1, r2⟩ hr' e
        have e' : p1 = r1 := e
        subst e'
        simp only [List.mem_append, List.mem_singleton, Prod.mk.injEq] at hp hr'
        rcases hp with hp | ⟨g1, g2⟩
        · rcases hr' with hr' | ⟨g3, g4⟩
          · exact fn _ hp _ hr' rfl
          · subst g3
            exact absurd hp (nk _)
        · rcases hr' with hr' | ⟨g3, g4⟩
          · subst g1
            exact absurd hr' (nk _)
          · rw [g2, g4]
end
end K13
/-! Bounds of texts. -/
namespace K13
open PySem PySem.Spec PyProof.Rows L2 Kx
structure Mu (μ : Str → Nat) : Prop where
  app : ∀ a b, μ (a ++ b) = μ a + μ b
  nil : μ "" = 0
theorem mu_len : Mu (fun x => x.length) := ⟨lcat, rfl⟩
theorem mu_cnt (c : Nat) : Mu (cnt c) := ⟨cnt_app c, rfl⟩
theorem mu_add {μ ν : Str → Nat} (h : Mu μ) (k : Mu ν) : Mu fun x => μ x + ν x := ⟨fun a b => by show μ (a ++ b) + ν (a ++ b) = _; rw [h.app, k.app]; omega, by show μ "" + ν "" = 0; rw [h.nil, k.nil]⟩
theorem mu_join {μ : Str → Nat} (h : Mu μ) (y : Str) : ∀ {ps : List Str}, ps ≠ [] → μ (Str.join y ps) + μ y = (ps.map μ).sum + ps.length * μ y
  | [x], _ => by
    show μ x + μ y = _
    simp
  | x :: z :: r, _ => by
    have ih := mu_join h y (ps := z :: r) (by simp)
    rw [sjoin_cons, h.app, h.app, List.map_cons, List.sum_cons, List.length_cons, Nat.add_mul]
    omega
theorem mu_tjoin {μ : Str → Nat} (h : Mu μ) (y : Str) {ps : List Str} (ne : ps ≠ []) : μ (Txt.join y ps) + μ y = (ps.map μ).sum + ps.length * μ y := by
  rw [TL.join_eq]
  exact mu_join h y ne
theorem mu_split {μ : Str → Nat} (h : Mu μ) (x y : Str) : μ x + μ y = ((Txt.split x y).map μ).sum + (Txt.split x y).length * μ y := by
  have := mu_join h y (split_ne x y)
  rwa [StrLaws.join_split] at this
theorem repl_ex (x y z : Str) : Txt.replace x y z = x ∨ ∃ ps, ps ≠ [] ∧ x = Str.join y ps ∧ Txt.replace x y z = Str.join z ps := by
  unfold Txt.replace
  split
  · exact .inl rfl
  · refine .inr ⟨Builtin.Str.partsBetween x (Builtin.Str.occurrences x y 0 x.length (x.length + 1)) y.length, ?_, ?_, ?_⟩
    · rw [StrLaws.partsBetween_eq]
      obtain ⟨p, r, e⟩ := StrLaws.partsFrom_ne x y.length 0 (Builtin.Str.occurrences x y 0 x.length (x.length + 1))
      rw [e]
      simp
    · rw [← StrLaws.glued_eq_join]
      exact (StrLaws.glued_between_self x y _).symm
    · rw [← StrLaws.glued_eq_join]
theorem repl_mu {μ : Str → Nat} (h : Mu μ) {x y z : Str} {c w m : Nat} (hc : 1 ≤ cnt c y) (hm : cnt c x ≤ m) (hw : μ z ≤ μ y + w) : μ (Txt.replace x y z) ≤ μ x + m * w := by
  rcases repl_ex x y z with e | ⟨ps, ne, ex, e⟩
  · rw [e]
    exact Nat.le_add_right _ _
  · have h1 := mu_join h y ne
    have h2 := mu_join h z ne
    have h3 := (cnt_join c y hc ps).1
    rw [← ex] at h1 h3
    rw [e]
    have h4 : ps.length * μ z ≤ ps.length * μ y + ps.length * w := by rw [← Nat.mul_add]; exact Nat.mul_le_mul_left _ hw
    have h5 : 0 < ps.length := List.length_pos_iff.mpr ne
    obtain ⟨k, ek⟩ : ∃ k, ps.length = k + 1 := ⟨ps.length - 1, by omega⟩
    rw [ek] at h1 h2 h3
    have h6 : k * w ≤ m * w := Nat.mul_le_mul_right _ (by omega)
    have h7 : k * μ z ≤ k * μ y + k * w := by rw [← Nat.mul_add]; exact Nat.mul_le_mul_left _ hw
    rw [Nat.add_mul, Nat.one_mul] at h1 h2
    omega
def lnT : Nat → Nat
  | 0 => 0
  | 1 => 8
  | n + 2 => 12 + 3 * lnT (n + 1)
def cB : Nat → Nat
  | 0 => 0
  | 1 => 0
  | n + 2 => 1 + 3 * cB (n + 1)
theorem txM_cnt {m c : Nat} (hc : 44 ≠ c) : ∀ {ds : List PyData}, (∀ d, d ∈ ds → (tx d).count c ≤ m) → (txM ds).count c ≤ ds.length * m
  | [], _ => Nat.zero_le _
  | e :: es, h => by
    have ih := txM_cnt hc fun d hd => h d (List.mem_cons_of_mem _ hd)
    have := h e List.mem_cons_self
    rw [show txM (e :: es) = 44 :: (tx e ++ txM es) from rfl, List.count_cons_of_ne hc, List.count_append, List.length_cons, Nat.add_mul, Nat.one_mul]
    omega
theorem tx_lnT : ∀ (n : Nat) (d : PyData), formedD d = true → d.depth ≤ n → (tx d).length ≤ lnT n ∧ (tx d).count 40 ≤ cB n ∧ (tx d).count 41 ≤ cB n
  | 0, d, hd, h => by
    obtain ⟨x, es, rfl, _⟩ := formed_shape hd
    simp [PyData.depth] at h
  | n + 1, d, hd, h => by
    obtain ⟨x, es, rfl, l3, hn, hf⟩ := formed_shape hd
    have nx := isNm_iff.mp hn
    have e9 : x.cps.toList.length = x.cps.size := Array.length_toList ..
    have zc : ∀ c, letter c = false → x.cps.toList.count c = 0 := fun c hc => List.count_eq_zero.mpr fun z => by rw [nx.2.2 c z] at hc; cases hc
    have e : tx (.tuple (.str x :: es)) = x.cps.toList ++ txA es := rfl
    rw [e, List.length_append, List.count_append, List.count_append, zc 40 rfl, zc 41 rfl]
    cases es with
    | nil =>
      have : (8 : Nat) ≤ lnT (n + 1) := by cases n <;> simp only [lnT] <;> omega
      simp [txA]
      omega
    | cons a as =>
      have hdd : PyData.depthAll (a :: as) ≤ n := by
        simp only [PyData.depth, PyData.depthAll] at h ⊢
        omega
      cases n with
      | zero =>
        obtain ⟨x', es', e', _⟩ := formed_shape (d := a) (formed_mem hf List.mem_cons_self)
        rw [e'] at hdd
        simp [PyData.depthAll, PyData.depth] at hdd
      | succ n =>
        have one : ∀ d, d ∈ a :: as → (tx d).length ≤ lnT (n + 1) ∧ (tx d).count 40 ≤ cB (n + 1) ∧ (tx d).count 41 ≤ cB (n + 1) := fun d hd => tx_lnT (n + 1) d (formed_mem hf hd) (Nat.le_trans (depth_mem hd) hdd)
        have h1 := txM_le (m := lnT (n + 1)) (ds := as) fun d hd => (one d (List.mem_cons_of_mem _ hd)).1
        have h2 := txM_cnt (c := 40) (by decide) (ds := as) fun d hd => (one d (List.mem_cons_of_mem _ hd)).2.1
        have h3 := txM_cnt (c := 41) (by decide) (ds := as) fun d hd => (one d (List.mem_cons_of_mem _ hd)).2.2
        obtain ⟨o1, o2, o3⟩ := one a List.mem_cons_self
        rw [show txA (a :: as) = 40 :: (tx a ++ (txM as ++ [41])) from rfl]
        simp only [List.length_cons, List.length_append, List.length_nil, List.count_append, List.count_cons, List.count_nil] at l3 ⊢
        have las : as.length ≤ 2 := by omega
        have k1 : as.length * (lnT (n + 1) + 1) ≤ 2 * (lnT (n + 1) + 1) := Nat.mul_le_mul_right _ las
        have k2 : as.length * cB (n + 1) ≤ 2 * cB (n + 1) := Nat.mul_le_mul_right _ las
        have e1 : lnT (n + 2) = 12 + 3 * lnT (n + 1) := rfl
        have e2 : cB (n + 2) = 1 + 3 * cB (n + 1) := rfl
        rw [e1, e2]
        simp
        omega
end K13
/-! read_fact. -/
namespace K13
open PySem PySem.Spec PyProof.Rows L2 Kx
theorem cut_init (xs : List V) (v : V) : cutV (xs ++ [v]) none (some (-1)) = xs := by
  have h1 : HT.sIx (xs ++ [v]).length 0 none = 0 := rfl
  have h2 : HT.sIx (xs ++ [v]).length (xs ++ [v]).length (some (-1)) = xs.length := by
    simp only [HT.sIx, List.length_append, List.length_singleton]
    split <;> omega
  unfold cutV
  rw [h1, h2]
  simp
theorem sum_mem {α : Type} {f : α → Nat} : ∀ {l : List α} {x : α}, x ∈ l → f x ≤ (l.map f).sum
  | z :: l, x, h => by
    rw [List.map_cons, List.sum_cons]
    rcases List.mem_cons.mp h with rfl | h
    · omega
    · have := sum_mem (f := f) h
      omega
theorem wordsP_at {ini : List Str} {i : Nat} (h : i < ini.length) : ∃ rest, wordsP ini = wordsP (ini.take i) ++ Txt.split ini[i] " & " ++ rest := by
  refine ⟨wordsP (ini.drop (i + 1)), ?_⟩
  have e : ini = ini.take i ++ ini[i] :: ini.drop (i + 1) := by simp
  conv => lhs; rw [e]
  unfold wordsP
  rw [List.flatMap_append, List.flatMap_cons, List.append_assoc]
theorem coups_pure : ∀ {l : List Str} {ds : List PyData}, coups l = some ds → (∀ z, z ∈ l → z.length ≤ 2000) → pureAll ds = true
  | [], ds, h, _ => by cases h; rfl
  | x :: l, ds, h, s => by
    obtain ⟨d, r, rfl, e, e2⟩ := coups_cons h
    rw [pureAll, (coup_bound e (s x List.mem_cons_self)).2.2, coups_pure e2 fun z hz => s z (List.mem_cons_of_mem _ hz)]
    rfl
def rSplitS : V → List V → Hp → VK → Prop := fun x xs H Q => ∃ a b, x = .str a ∧ xs = [.str b] ∧ (b.length == 0) = false ∧ a.length + 2 ≤ sizeLine ∧ rNewStrs (Txt.split a b) H Q
section
variable {P : Program} {w : World} {K : PySem.W.Frag} {mg : Str → Option Value} {base : Heap}
def spRf (K : PySem.W.Frag) (C : Addr) : Sp := fun vs H Q E => ∃ (x : V) (d0 : PyData), vs = [x] ∧ Dx K H x d0 ∧ (∀ y, d0 = .str y → y.length ≤ 2000 ∧ cnt 38 y + cnt 62 y ≤ 90) ∧ (toldF d0 = none → ∀ H', Same H H' → E (.ref C) none H') ∧
  ∀ d, toldF d0 = some d → ∀ v H', Same H H' → Dx K H' v d → Q v H'
theorem ok_rf (T : Tx K mg) : FnOk P w K mg base (L2.CX P w) 8 T.aread_fact T.dread_fact ["text"] (spRf K T.CParseError) := by
  have nd := sc_read_fact.nd
  have GC := ok_rc (P := P) (w := w) (base := base) T
  have GF := ok_fact (P := P) (w := w) (base := base) T
  refine T.fread_fact.okX sc_read_fact (fun vs H Q E h => ?_) (fun cdv A outer s H vs Q E hr h => ?_)
  · obtain ⟨x, d, rfl, _⟩ := h
    rfl
  obtain ⟨x, d0, rfl, hx, hl, q0, q1⟩ := h
  refine ⟨_, (pss_cons (ps_if (pt_not (pt_val (pe_callB call_isi (by rfl) T.b_isinstance (by decide +kernel) (pa_cons (pv 0) (pa_cons (pe_bltn (v := .ty "str") (by rfl) T.b_str (by decide +kernel) rfl) pa_nil))))) (pss_one (ps_raise rfl (takes_of rfl rfl rfl rfl) (pmk_own PySem.F.excBase_ValueError T.xParseError T.gParseError T.kParseError (raises_own T.bParseError T.tParseError) (by rfl)))) pss_nil)
      (pss_cons (ps_set (i := 1) nd rfl (.inl rfl) (pe_bm PySem.F.plainAttrs_str PySem.F.slot_str_split PySem.F.type_str_split mt_split (pv 0) (pa_cons pe_str pa_nil)))
      (C8.pss_cut (ps_set (i := 2) nd rfl (.inl rfl) (pe_ifExp (pt_cmpR op_eq (pe_ix ix_list (pv 1) (pe_un un_neg pe_int) (fun _ _ => rfl)) pe_str (nomark _)) pe_non (pe_call GC (hr.mono (by omega)) (by rfl) T.gread_couple T.fread_couple.kp T.nread_couple .nil (passes_call (takes_of rfl rfl rfl rfl) (fun _ _ _ _ h => h)) (pa_cons (pe_ix ix_list (pv 1) (pe_un un_neg pe_int) (fun _ _ => rfl)) pa_nil))))
      (pss_cons (ps_setLc2X (i := 3) (own := [("part", 5), ("word", 6)]) (vs1 := [6]) (g := gName 5) (g1 := gName 6) (wi := iList K (tSl (rSlL K) (tVar 1) tNoPart (tPart (tUn (rU fun i => .int (-i)) (tC (.int 1)))))) (wi1 := iList K (tBM K "str" rSplitS (tVar 5) (tCons (tC (.str " & ")) tNil))) (tt := tYes) (tt1 := tYes) (E := E) rfl rfl (takes_of rfl rfl rfl rfl) (by rfl) nd rfl rfl (sw_true rfl rfl rfl (by decide +kernel)) (pi_list (pe_slice sl_list (pv 1) po_none (po_some (pe_un un_neg pe_int)))) (blkOk_by (own := [("part", 5), ("word", 6)]) (N := N_read_fact) (sc := defScope s_read_fact) (by decide +kernel)) (by decide) (fun _ _ _ _ _ => pg_name (i := 5) nd rfl (.inl rfl)) (fun _ _ _ _ _ => pts_nil)
          (fun _ _ _ _ _ => pi_list (pe_bm PySem.F.plainAttrs_str PySem.F.slot_str_split PySem.F.type_str_split mt_split (pv 5) (pa_cons pe_str pa_nil))) (fun _ _ _ _ _ => pg_name (i := 6) nd rfl (.inl rfl)) (fun _ _ _ _ _ => pts_nil)
          (fun _ _ _ _ _ => (pe_call GC (hr.mono (by omega)) (by rfl) T.gread_couple T.fread_couple.kp T.nread_couple .nil passE (pa_cons (pv 6) pa_nil))))
      (pss_cons (ps_set (i := 4) nd rfl (.inl rfl) (pe_tup (pa_cons (pe_callTy call_tuple_of (by rfl) T.b_tuple (by decide +kernel) (pa_cons (pv 3) pa_nil)) (pa_cons (pv 2) pa_nil))))
      (pss_cons (ps_if (PW.pt (pw_or (pt_cmpR op_gt (pe_callB call_len_seq (by rfl) T.b_len (by decide +kernel) (pa_cons (pv 1) pa_nil)) pe_int (nomark _)) (pw_or1 (pt_not (pt_val (pe_call GF (hr.mono (by omega)) (by rfl) T.gis_fact T.fis_fact.kp T.nis_fact .nil pass0 (pa_cons (pv 4) pa_nil))))))) (pss_one (ps_raise rfl (takes_of rfl rfl rfl rfl) (pmk_own PySem.F.excBase_ValueError T.xParseError T.gParseError T.kParseError (raises_own T.bParseError T.tParseError) (by rfl)))) pss_nil)
      (pss_one (ps_ret (pv 4))))))))), ?_⟩
  have sz : 10000 ≤ sizeLine := by decide
  refine ⟨x, rfl, x, .ty "str", _, _, _, rfl, .ty _, hx.ty, kit_ty (kit_str d0), _, rfl, ?_⟩
  cases d0 with
  | str y =>
    cases hx
    obtain ⟨ly, cy⟩ := hl y rfl
    refine iteF ⟨_, rfl, rfl, y, " => ", rfl, rfl, rfl, by omega, fun p np => ?_⟩
    have s1 := same_put (o := .lst ((Txt.split y " => ").map V.str)) np
    have hp : (upd H p (.lst ((Txt.split y " => ").map V.str))) p = some (.lst ((Txt.split y " => ").map V.str)) := upd_same
    obtain ⟨ini, last, ep⟩ := parts_ex y
    have psz := parts_sz ep ly cy
    have fsz := fun (c : PyData) (ds : List PyData) => fact_sz ep ly cy (c := c) (ds := ds)
    have t0 : toldF (.str y) = factP (ini ++ [last]) := by
      show factP (Txt.split y " => ") = _
      rw [ep]
    rw [factP_snoc] at t0
    rw [t0] at q0 q1
    rw [ep, List.map_append] at s1 hp ⊢
    generalize upd H p (.lst (ini.map V.str ++ [last].map V.str)) = H1 at s1 hp ⊢
    have al := atI_last (ini.map V.str) (V.str last)
    refine ⟨fun σ' H' => ∃ (v : V) (c : PyData), σ' = [some (.str y), some (.ref p), some v, none, none, none, none] ∧ conclD last = some c ∧ Same H1 H' ∧ Dx K H' v c ∧ pureD c = true, ?_, ?_⟩
    · refine ⟨_, rfl, 1, rfl, p, _, -1, .str last, rfl, rfl, SqL.of hp, al, rfl, _, rfl, ite2 (fun e => ?_) (fun e => ?_)⟩
      · have e : last = "never" := V.str.inj (of_decide_eq_true e)
        exact ⟨.non, .none, rfl, if_pos e, Same.refl H1, .non, rfl⟩
      · have e : ¬ last = "never" := fun z => by rw [z] at e; simp at e
        refine ⟨_, rfl, 1, rfl, p, _, -1, .str last, rfl, rfl, SqL.of hp, al, last, rfl, by omega, fun ec H' s' => q0 ?_ H' (s1.trans s'), fun d ec v H' s' dv => ⟨v, d, rfl, (if_neg e).trans ec, s', dv, (coup_bound ec (by omega)).2.2⟩⟩
        rw [show conclD last = none from (if_neg e).trans ec]
        rfl
    rintro σ' H2 ⟨v, c, rfl, ec, s2, dv, pc⟩
    have hp2 := s2 _ _ hp
    refine ⟨_, rfl, 1, rfl, _, rfl, p, _, rfl, SqL.of hp2, fun r nr => ?_⟩
    rw [show cutV (ini.map V.str ++ [last].map V.str) none (some (-1)) = ini.map V.str from cut_init _ _]
    have s3 := same_put (o := .lst (ini.map V.str)) nr
    have hr3 : (upd H2 r (.lst (ini.map V.str))) r = some (.lst (ini.map V.str)) := upd_same
    generalize upd H2 r (.lst (ini.map V.str)) = H3 at s3 hr3 ⊢
    have bad : ∀ z, z ∈ wordsP ini → coupD z = none → ∀ H', Same H3 H' → E (.ref T.CParseError) none H' := fun z hz ez H' s' => q0 (by
      rw [ec]
      show ((coups (wordsP ini)).bind _) = none
      rw [coups_none hz ez]
      rfl) H' (s1.trans (s2.trans (s3.trans s')))
    have few : (wordsP ini).length ≤ 90 := Nat.le_trans (wordsP_len ini) psz.2
    have lens : ∀ z, z ∈ wordsP ini → z.length ≤ 2000 := fun z hz => by
      have := wordsP_sum ini
      have := sum_mem (f := fun x : Str => x.length) hz
      omega
    refine ⟨r, rfl, ⟨_, SqL.of hr3⟩, fun D nD => ?_⟩
    let Pv : Nat → Hp → Prop := fun i G => Same H3 G ∧ ∃ ys ds, G D = some (.lst ys) ∧ DxAll K G ys ds ∧ coups (wordsP (ini.take i)) = some ds
    refine ⟨fun i m G => m = ini.length - i ∧ i ≤ ini.length ∧ Pv i G, ⟨ini.length, by simp, Nat.zero_le _, same_put nD, [], [], upd_same, .nil, rfl⟩, ?_⟩
    rintro i m G ⟨rfl, hi, sG, ys, ds, eD, dy, eds⟩
    by_cases hlt : i < ini.length
    · refine .inr ⟨⟨ini.map V.str, V.str ini[i], sG.seq (SqL.of hr3), by simp [hlt]⟩, Pv (i + 1), fun H' p' => ⟨ini.length - (i + 1), by omega, rfl, hlt, p'⟩, fun x H' yy => ?_⟩
      obtain ⟨e, yy⟩ := yy
      subst e
      have hxi := yy _ (sG.seq (SqL.of hr3))
      rw [List.getElem?_map, List.getElem?_eq_getElem hlt] at hxi
      cases hxi
      obtain ⟨rest, ew⟩ := wordsP_at hlt
      refine ⟨rfl, (iteT (B := Pv (i + 1) H') ?_ : if true = true then _ else Pv (i + 1) H')⟩
      have li : ini[i].length ≤ 2000 := by
        have := sum_mem (f := fun x : Str => x.length) (List.getElem_mem hlt)
        omega
      refine ⟨_, rfl, rfl, ini[i], " & ", rfl, rfl, rfl, by omega, fun r2 nr2 => ⟨r2, rfl, ⟨_, SqL.of upd_same⟩, ?_⟩⟩
      generalize ews : Txt.split ini[i] " & " = ws at ew ⊢
      have nrD : r2 ≠ D := fun z => by rw [z, eD] at nr2; cases nr2
      let Nx : Nat → Hp → Prop := fun j G2 => j ≤ ws.length ∧ Same H3 G2 ∧ G2 r2 = some (.lst (ws.map V.str)) ∧ ∃ ys ds, G2 D = some (.lst ys) ∧ DxAll K G2 ys ds ∧ coups (wordsP (ini.take i) ++ ws.take j) = some ds
      have sH := same_put (o := .lst (ws.map V.str)) nr2
      refine ⟨fun j k G2 => k = ws.length - j ∧ Nx j G2, ⟨ws.length, rfl, Nat.zero_le _, sG.trans sH, upd_same, ys, ds, sH _ _ eD, dy.up sH, by rw [List.take_zero, List.append_nil]; exact eds⟩, ?_⟩
      rintro j k G2 ⟨rfl, hj, sG2, er2, ys2, ds2, eD2, dy2, ec2⟩
      by_cases h2 : j < ws.length
      · refine .inr ⟨⟨ws.map V.str, V.str ws[j], SqL.of er2, by simp [h2]⟩, Nx (j + 1), fun G3 h3 => ⟨ws.length - (j + 1), by omega, rfl, h3⟩, fun x G3 yy => ?_⟩
        obtain ⟨e, yy⟩ := yy
        subst e
        have hxj := yy _ (SqL.of er2)
        rw [List.getElem?_map, List.getElem?_eq_getElem h2] at hxj
        cases hxj
        have mw : ws[j] ∈ wordsP ini := by
          rw [ew]
          exact List.mem_append_left _ (List.mem_append_right _ (List.getElem_mem h2))
        refine ⟨rfl, (iteT (B := Nx (j + 1) G3) ?_ : if true = true then _ else Nx (j + 1) G3)⟩
        refine ⟨_, rfl, ws[j], rfl, lens _ mw, fun en H' s' => bad _ mw en H' (sG2.trans s'), fun d ed v2 H' s' dv2 => ?_⟩
        have l2 : ds2.length ≤ 90 := by
          rw [coups_len ec2]
          rw [ew] at few
          simp only [List.length_append, List.length_take] at few ⊢
          omega
        have ll := dy2.length
        have hd' := s' _ _ eD2
        refine ⟨ys2, hd', small1000 (by omega), h2, fun c o hc => ?_, ?_, ys2 ++ [v2], ds2 ++ [d], upd_same, ?_, ?_⟩
        · rw [upd_ne (ne_of_none hc nD)]
          exact s' _ _ (sG2 c o hc)
        · rw [upd_ne nrD]
          exact s' _ _ er2
        · have pu := coups_pure ec2 (fun z hz => lens z (by
            rw [ew]
            rcases List.mem_append.mp hz with z1 | z1
            · exact List.mem_append_left _ (List.mem_append_left _ z1)
            · exact List.mem_append_left _ (List.mem_append_right _ (List.mem_of_mem_take z1))))
          have pd := (coup_bound ed (lens _ mw)).2.2
          exact DxAll.append (DxAll.ts (Tups.lst hd') _ _ pu (dy2.up s')) (.cons (Dx.ts (Tups.lst hd') _ _ pd dv2) .nil)
        · rw [List.take_add_one, List.getElem?_eq_getElem h2, Option.toList_some, ← List.append_assoc]
          exact coups_snoc ec2 ed
      · have e : j = ws.length := by omega
        subst e
        refine .inl ⟨⟨ws.map V.str, SqL.of er2, by simp⟩, sG2, ys2, ds2, eD2, dy2, ?_⟩
        rw [List.take_length] at ec2
        rw [List.take_add_one, List.getElem?_eq_getElem hlt, Option.toList_some, wordsP_snoc, ews]
        exact ec2
    · have e : i = ini.length := by omega
      subst e
      refine .inl ⟨⟨ini.map V.str, sG.seq (SqL.of hr3), by simp⟩, ?_⟩
      rw [List.take_length] at eds
      obtain ⟨f1, f2, f3, f4⟩ := fsz c ds ec eds
      dsimp only [gName]
      have sA := s2.trans (s3.trans sG)
      refine ⟨_, rfl, D, ys, rfl, .inl ⟨SqL.of eD, fun t nt => ?_⟩⟩
      have st := same_put (o := .tup ys) nt
      refine ⟨_, rfl, by show 2 ≤ sizeLine; omega, fun u nu => ?_⟩
      have su := same_put (o := .tup [.ref t, v]) nu
      have sT := st.trans su
      have df : Dx K _ (.ref u) (.tuple [.tuple ds, c]) := .tup upd_same (.cons (.tup (su _ _ upd_same) (dy.up sT)) (.cons (dv.up (s3.trans (sG.trans sT))) .nil))
      generalize upd (upd G t (.tup ys)) u (.tup [.ref t, v]) = H5 at df sT
      have sZ := s1.trans (sA.trans sT)
      dsimp only [gName]
      have tF : ((conclD last).bind fun e => (coups (wordsP ini)).bind fun ds => if ini.length + 1 ≤ 2 ∧ factD (PyData.tuple [PyData.tuple ds, e]) = true then some (PyData.tuple [PyData.tuple ds, e]) else none) = if ini.length + 1 ≤ 2 ∧ factD (PyData.tuple [PyData.tuple ds, c]) = true then some (PyData.tuple [PyData.tuple ds, c]) else none := by
        rw [ec, eds]
        rfl
      rw [tF] at q0 q1
      have hp5 := (sA.trans sT) _ _ hp
      refine ⟨_, rfl, p, _, rfl, .inl (SqL.of hp5), _, _, rfl, rfl, _, rfl, ite2 (fun e => ?_) (fun e => ?_)⟩
      · refine iteT (q0 (if_neg fun z => ?_) H5 sZ)
        have e := of_decide_eq_true e
        simp at e
        omega
      · have e2 : ini.length + 1 ≤ 2 := by
          simp at e
          omega
        refine ⟨_, rfl, .ref u, _, rfl, df, f1, f2, fun ps e he => ?_, fun H6 s6 => ⟨_, rfl, ?_⟩⟩
        · cases he
          omega
        cases hf : factD (.tuple [.tuple ds, c]) with
        | false => exact iteT (q0 (if_neg fun z => by rw [hf] at z; cases z.2) H6 (sZ.trans s6))
        | true => exact iteF ⟨_, rfl, q1 _ (if_pos ⟨e2, hf⟩) _ H6 (sZ.trans s6) (df.up s6)⟩
  | _ => exact iteT (q0 rfl H (Same.refl H))
end
end K13
/-! _law_read. -/
namespace K13
open PySem PySem.Spec PyProof.Rows L2 Kx
def readD (d0 : PyData) : PyData := (toldF d0).getD (.str "parse")
section
variable {P : Program} {w : World} {K : PySem.W.Frag} {mg : Str → Option Value} {base : Heap}
def spLr (K : PySem.W.Frag) : Sp := fun vs H Q _ => ∃ (x : V) (d0 : PyData), vs = [x] ∧ Dx K H x d0 ∧ (∀ y, d0 = .str y → y.length ≤ 2000 ∧ cnt 38 y + cnt 62 y ≤ 90) ∧ ∀ v H', Same H H' → Dx K H' v (readD d0) → Q v H'
theorem ok_lr (T : Tx K mg) : FnOk P w K mg base CX0 9 T.a_law_read T.d_law_read ["text"] (spLr K) := by
  have nd := sc__law_read.nd
  have G := ok_rf (P := P) (w := w) (base := base) T
  refine T.f_law_read.ok sc__law_read (fun vs H Q E h => ?_) (fun cdv A outer s H vs Q E hr h => ?_)
  · obtain ⟨x, d, rfl, _⟩ := h
    rfl
  · obtain ⟨x, d0, rfl, hx, hl, q⟩ := h
    refine ⟨_, (pss_one (ps_try_only (tb := fun W => tRet (tCallS (spRf K T.CParseError) (WE W) (tCons (tVar 0) tNil))) (ts := fun _ _ _ => tRet (tC (.str "parse"))) (Wout := fun _ _ _ _ => False) rfl rfl ⟨rfl, by decide, Or.inl T.gParseError⟩ takes0
      (fun W pn xe tk _ => pss_one (ps_ret (pe_callS G (hr.mono (by omega)) rfl T.gread_fact T.fread_fact.kp T.nread_fact (fun σ => passAt tk σ) (by exact (pa_cons (pv 0) pa_nil)))))
      (fun a oe cls d pn _ _ => pss_one (ps_ret pe_str)))), ?_⟩
    unfold readD at q
    refine ⟨_, rfl, x, d0, rfl, hx, hl, fun e H' sm => ⟨true, T.eParseError, fun _ a ha => ?_, fun z => nomatch z⟩, fun d e v H' sm dv => ?_⟩
    · rw [e] at q
      exact q _ H' sm (.str _)
    · rw [e] at q
      exact q v H' sm dv
end
end K13
/-! Bounds of a fact's text, and of a spoilt one. -/
namespace K13
open PySem PySem.Spec PyProof.Rows L2 Kx
/-- what a reader is given -/
structure SB (z : Str) : Prop where
  l : z.length ≤ 2000
  m : cnt 38 z + cnt 62 z ≤ 90
  o : cnt 40 z < 100
/-- a side of a fact's text -/
structure Eb (z : Str) : Prop where
  asc : ∀ c, c ∈ TL.tl z → c < 128
  l : z.length ≤ 241
  c38 : cnt 38 z = 0
  c62 : cnt 62 z = 0
  c40 : cnt 40 z ≤ 8
  c41 : cnt 41 z ≤ 8
  c61 : cnt 61 z ≤ 1
theorem sgn_asc {d : PyData} (h : formedD d = true) {c : Nat} (m : c ∈ tx d) : c < 128 ∧ c ≠ 38 ∧ c ≠ 62 ∧ c ≠ 61 := by
  rcases tx_signs d h c m with hc | hc
  · simp only [sgn, Bool.or_eq_true, decide_eq_true_eq] at hc
    omega
  · simp only [letter, Bool.and_eq_true, decide_eq_true_eq] at hc
    omega
theorem pr_eb {rs : List NK} {d : PyData} (h : Pr rs 3 d) : Eb (prS d) := by
  obtain ⟨a, b, rfl, ha, hb, _⟩ := h.ex
  obtain ⟨a1, a2, a3⟩ := tx_lnT 3 a ha.fm ha.dp
  obtain ⟨b1, b2, b3⟩ := tx_lnT 3 b hb.fm hb.dp
  have e1 : lnT 3 = 120 := rfl
  have e2 : cB 3 = 4 := rfl
  rw [e1] at a1 b1
  rw [e2] at a2 a3 b2 b3
  have z : ∀ c, c = 38 ∨ c = 62 ∨ c = 61 → (tx a).count c = 0 ∧ (tx b).count c = 0 := fun c hc => ⟨List.count_eq_zero.mpr fun m => by have := sgn_asc ha.fm m; omega, List.count_eq_zero.mpr fun m => by have := sgn_asc hb.fm m; omega⟩
  have ct : ∀ c, cnt c (prS (.tuple [a, b])) = (tx a).count c + ((61 :: tx b).count c) := fun c => by
    unfold cnt
    rw [show (prS (.tuple [a, b])).cps.toList = tx a ++ 61 :: tx b from pr_tl a b, List.count_append]
  refine ⟨fun c m => ?_, ?_, ?_, ?_, ?_, ?_, ?_⟩
  · rw [pr_tl] at m
    rcases List.mem_append.mp m with m | m
    · exact (sgn_asc ha.fm m).1
    · rcases List.mem_cons.mp m with rfl | m
      · decide
      · exact (sgn_asc hb.fm m).1
  · rw [TL.len_tl, pr_tl, List.length_append, List.length_cons]
    omega
  · rw [ct, List.count_cons_of_ne (by decide), (z 38 (by simp)).1, (z 38 (by simp)).2]
  · rw [ct, List.count_cons_of_ne (by decide), (z 62 (by simp)).1, (z 62 (by simp)).2]
  · rw [ct, List.count_cons_of_ne (by decide)]
    omega
  · rw [ct, List.count_cons_of_ne (by decide)]
    omega
  · rw [ct, List.count_cons_self, (z 61 (by simp)).1, (z 61 (by simp)).2]
    decide
theorem end_eb {rs : List NK} {c : PyData} (h : c = .none ∨ Pr rs 3 c) : Eb (endS c) := by
  rcases h with rfl | h
  · exact ⟨by decide, by decide, by decide, by decide, by decide, by decide, by decide⟩
  · have e := pr_eb h
    obtain ⟨a, b, rfl, _⟩ := h.ex
    exact e
/-- a text of conditions, or of a conclusion -/
structure Jb (z : Str) : Prop where
  asc : ∀ c, c ∈ TL.tl z → c < 128
  l : z.length ≤ 729
  c38 : cnt 38 z ≤ 2
  c62 : cnt 62 z = 0
  c40 : cnt 40 z ≤ 24
  c41 : cnt 41 z ≤ 24
  c61 : cnt 61 z ≤ 3
theorem Eb.jb {z : Str} (h : Eb z) : Jb z := ⟨h.asc, by have := h.l; omega, by rw [h.c38]; omega, h.c62, by have := h.c40; omega, by have := h.c41; omega, by have := h.c61; omega⟩
theorem sum_le {α : Type} {f : α → Nat} {m : Nat} : ∀ {l : List α}, (∀ x, x ∈ l → f x ≤ m) → (l.map f).sum ≤ l.length * m
  | [], _ => Nat.zero_le _
  | x :: l, h => by
    have ih := sum_le fun y hy => h y (List.mem_cons_of_mem _ hy)
    have := h x List.mem_cons_self
    rw [List.map_cons, List.sum_cons, List.length_cons, Nat.add_mul, Nat.one_mul]
    omega
theorem join_le {μ : Str → Nat} (h : Mu μ) {ps : List Str} (ne : ps ≠ []) (l3 : ps.length ≤ 3) {m : Nat} (hm : ∀ x, x ∈ ps → μ x ≤ m) : μ (Txt.join " & " ps) ≤ 3 * m + 2 * μ " & " := by
  have h1 := mu_tjoin h " & " ne
  have h2 := sum_le hm
  have h3 : ps.length * m ≤ 3 * m := Nat.mul_le_mul_right _ l3
  have h4 : ps.length * μ " & " ≤ 3 * μ " & " := Nat.mul_le_mul_right _ l3
  omega
theorem join_asc {y : Str} (hy : ∀ c, c ∈ TL.tl y → c < 128) {ps : List Str} (h : ∀ x, x ∈ ps → ∀ c, c ∈ TL.tl x → c < 128) : ∀ c, c ∈ TL.tl (Txt.join y ps) → c < 128 := by
  rw [TL.join_eq]
  induction ps with
  | nil => intro c hc; cases hc
  | cons x r ih =>
    cases r with
    | nil => exact h x List.mem_cons_self
    | cons z r =>
      intro c hc
      rw [sjoin_cons, TL.tl_append, TL.tl_append] at hc
      rcases List.mem_append.mp hc with hc | hc
      · rcases List.mem_append.mp hc with hc | hc
        · exact h x List.mem_cons_self c hc
        · exact hy c hc
      · exact ih (fun w hw => h w (List.mem_cons_of_mem _ hw)) c hc
theorem j_jb {rs : List NK} {L : List PyData} (ne : L ≠ []) (l3 : L.length ≤ 3) (h : ∀ d, d ∈ L → Pr rs 3 d) : Jb (Txt.join " & " (L.map prS)) := by
  have ne2 : L.map prS ≠ [] := by simpa using ne
  have l4 : (L.map prS).length ≤ 3 := by rw [List.length_map]; exact l3
  have e : ∀ x, x ∈ L.map prS → Eb x := fun x hx => by
    obtain ⟨d, hd, rfl⟩ := List.mem_map.mp hx
    exact pr_eb (h d hd)
  refine ⟨join_asc (by decide) fun x hx => (e x hx).asc, join_le mu_len ne2 l4 fun x hx => (e x hx).l, join_le (mu_cnt 38) ne2 l4 (m := 0) fun x hx => by rw [(e x hx).c38]; exact Nat.le_refl _, Nat.le_zero.mp (join_le (mu_cnt 62) ne2 l4 (m := 0) fun x hx => by rw [(e x hx).c62]; exact Nat.le_refl _), join_le (mu_cnt 40) ne2 l4 fun x hx => (e x hx).c40, join_le (mu_cnt 41) ne2 l4 fun x hx => (e x hx).c41, join_le (mu_cnt 61) ne2 l4 fun x hx => (e x hx).c61⟩
/-- a fact's text, with its first and last half -/
structure Txb (y : Str) : Prop where
  asc : ∀ c, c ∈ TL.tl y → c < 128
  l : y.length ≤ 974
  c38 : cnt 38 y ≤ 2
  c62 : cnt 62 y ≤ 1
  c40 : cnt 40 y ≤ 32
  c41 : cnt 41 y ≤ 32
  c61 : cnt 61 y ≤ 5
  hs : ∃ h0 r hl, Txt.split y " => " = h0 :: r ∧ (∃ i, Txt.split y " => " = i ++ [hl]) ∧ Jb h0 ∧ Eb hl
theorem ft_txb {rs : List NK} {L : List PyData} {c : PyData} (h : Fa rs 3 3 L c) (F : Func rs) : Txb (ftS L c) := by
  obtain ⟨_, fc⟩ := end_ok h.c F
  have eb := end_eb h.c
  by_cases e : L = []
  · subst e
    rw [show ftS [] c = endS c from if_pos rfl]
    exact ⟨eb.asc, by have := eb.l; omega, by rw [eb.c38]; omega, by rw [eb.c62]; omega, by have := eb.c40; omega, by have := eb.c41; omega, by have := eb.c61; omega, endS c, [], endS c, split_end fc, ⟨[], split_end fc⟩, eb.jb, eb⟩
  · have jb := j_jb e h.len h.ps
    have ok : ∀ p, p ∈ (L.map prS).map TL.tl → 32 ∉ p ∧ ∃ c r, p = c :: r ∧ c ≠ 61 := fun p hp => by
      obtain ⟨x, hx, rfl⟩ := List.mem_map.mp hp
      obtain ⟨d, hd, rfl⟩ := List.mem_map.mp hx
      obtain ⟨a, b, rfl, ha, hb, _⟩ := (h.ps d hd).ex
      exact pr_free ha.fm hb.fm
    have sp : Txt.split ((Txt.join " & " (L.map prS) ++ " => ") ++ endS c) " => " = [Txt.join " & " (L.map prS), endS c] := split_two (by
      rw [TL.join_eq, TL.tl_join]
      exact okB_join ok) fc
    rw [show ftS L c = (Txt.join " & " (L.map prS) ++ " => ") ++ endS c from if_neg e]
    generalize Txt.join " & " (L.map prS) = J at jb sp
    have ap : ∀ {μ : Str → Nat}, Mu μ → μ ((J ++ " => ") ++ endS c) = μ J + μ " => " + μ (endS c) := fun m => by rw [m.app, m.app]
    have l1 := ap mu_len
    have l2 := ap (mu_cnt 38)
    have l3 := ap (mu_cnt 62)
    have l4 := ap (mu_cnt 40)
    have l5 := ap (mu_cnt 41)
    have l6 := ap (mu_cnt 61)
    have k1 : (" => " : Str).length = 4 := rfl
    have k2 : cnt 38 " => " = 0 := by decide
    have k3 : cnt 62 " => " = 1 := by decide
    have k4 : cnt 40 " => " = 0 := by decide
    have k5 : cnt 41 " => " = 0 := by decide
    have k6 : cnt 61 " => " = 1 := by decide
    have j := jb
    have b := eb
    refine ⟨fun c hc => ?_, ?_, ?_, ?_, ?_, ?_, ?_, J, [endS c], endS c, sp, ⟨[J], sp⟩, jb, eb⟩
    · rw [TL.tl_append, TL.tl_append] at hc
      rcases List.mem_append.mp hc with hc | hc
      · rcases List.mem_append.mp hc with hc | hc
        · exact jb.asc c hc
        · exact (show ∀ c, c ∈ TL.tl (" => " : Str) → c < 128 by decide) c hc
      · exact eb.asc c hc
    · have := j.l; have := b.l; show ((J ++ " => ") ++ endS c).length ≤ _; omega
    · have := j.c38; have := b.c38; omega
    · have := j.c62; have := b.c62; omega
    · have := j.c40; have := b.c40; omega
    · have := j.c41; have := b.c41; omega
    · have := j.c61; have := b.c61; omega
theorem Txb.sb {y : Str} (h : Txb y) : SB y := ⟨by have := h.l; omega, by have := h.c38; have := h.c62; omega, by have := h.c40; omega⟩
end K13
/-! list(text). -/
namespace Kx
open PySem PySem.Spec PyProof.Rows L2
theorem call_list_text {X : Cx} (hc : X.calm = true) : CallR X (.type "list") (fun xs H Q => ∃ z : Str, xs = [.str z] ∧ z.cps.size ≤ sizeLine ∧ ∀ q, H q = none → Q (.ref q) (upd H q (.lst (z.cps.toList.map fun c => V.str ⟨#[c]⟩)))) := by
  intro pins s σ H xs us Q I r h
  obtain ⟨x, rfl, hz, q⟩ := h
  obtain ⟨u, rfl, rx⟩ := r.one
  obtain ⟨t, rfl⟩ := rx
  refine PySem.call_list_str (I.ok.hd hc) x t (fun h' tk acc' c' hkeep hS hacc => ?_) hz
  refine ⟨.ref s.heap.objs.size, upd H s.heap.objs.size (.lst (x.cps.toList.map fun c => V.str ⟨#[c]⟩)), I.laid hkeep (Nat.le_refl _) (show ObjOk X.prog X.w _ _ _ (.lst (x.cps.toList.map fun c => V.str ⟨#[c]⟩)) from ⟨?_, acc'.toList, c', ?_, ?_⟩), rfl, q _ (I.hok.fresh (Nat.le_refl _))⟩
  · rw [List.length_map, Array.length_toList]; exact hz
  · have el : acc'.toList.length = acc'.size := by simp
    refine vals_of_at (by rw [List.length_map, el, hacc.1, Array.length_toList]) fun j v w h1 h2 => ?_
    obtain ⟨c, u, hc, rfl⟩ := hacc.2 j w (by rw [← Array.getElem?_toList]; exact h2)
    have e1 : (x.cps.toList.map fun c => V.str ⟨#[c]⟩)[j]? = some (V.str ⟨#[c]⟩) := by
      rw [List.getElem?_map, Array.getElem?_toList, hc]
      rfl
    rw [e1] at h1
    cases h1
    exact ⟨u, rfl⟩
  · rw [Array.toArray_toList]; exact hS
end Kx
/-! _law_spoilt. -/
namespace K13
open PySem PySem.Spec PyProof.Rows L2 Kx CwR
structure Sg (s : Str) : Prop where
  l : s.length ≤ 5
  m : cnt 38 s + cnt 62 s ≤ 1
  o : cnt 40 s ≤ 1
def signs : List Str := ["a", "b", "(", ")", ",", "=", " ", "&", ">", "\n", "A", "0", "never"]
theorem sg_of {s : Str} (h : s ∈ signs) : Sg s := by
  have : ∀ s ∈ signs, s.length ≤ 5 ∧ cnt 38 s + cnt 62 s ≤ 1 ∧ cnt 40 s ≤ 1 := by decide +kernel
  obtain ⟨a, b, c⟩ := this s h
  exact ⟨a, b, c⟩
theorem sb_mu {z : Str} {a b c : Nat} (h1 : z.length ≤ a) (h2 : cnt 38 z + cnt 62 z ≤ b) (h3 : cnt 40 z ≤ c) (k1 : a ≤ 2000) (k2 : b ≤ 90) (k3 : c < 100) : SB z := ⟨by omega, by omega, by omega⟩
/-- the measures of a text with something between two cuts of it -/
theorem cut_sb {y s : Str} (h : Txb y) (g : Sg s) {i j : Nat} (hij : i ≤ j) : SB ((tS ((TL.tl y).take i) ++ s) ++ tS ((TL.tl y).drop j)) := by
  have l1 : ((TL.tl y).take i).length + ((TL.tl y).drop j).length ≤ (TL.tl y).length := by
    rw [List.length_take, List.length_drop]
    omega
  have l2 : ∀ c, ((TL.tl y).take i).count c + ((TL.tl y).drop j).count c ≤ (TL.tl y).count c := fun c => by
    have e := congrArg (List.count c) (List.take_append_drop i (TL.tl y))
    rw [List.count_append] at e
    have : ((TL.tl y).drop j).count c ≤ ((TL.tl y).drop i).count c := by
      have : (TL.tl y).drop j = ((TL.tl y).drop i).drop (j - i) := by rw [List.drop_drop]; congr 1; omega
      rw [this]
      exact (List.drop_sublist _ _).count_le c
    omega
  have e1 : ∀ l : List Nat, (tS l).length = l.length := tS_len
  have e2 : ∀ (c : Nat) (l : List Nat), cnt c (tS l) = l.count c := fun c l => by
    show l.toArray.toList.count c = _
    simp
  have z : (TL.tl y).length = y.length := (TL.len_tl y).symm
  have z38 : (TL.tl y).count 38 = cnt 38 y := rfl
  have z62 : (TL.tl y).count 62 = cnt 62 y := rfl
  have z40 : (TL.tl y).count 40 = cnt 40 y := rfl
  have m38 := l2 38
  have m62 := l2 62
  have m40 := l2 40
  refine ⟨?_, ?_, ?_⟩
  · rw [lcat, lcat, e1, e1]
    have := g.l
    have := h.l
    omega
  · rw [cnt_app, cnt_app, cnt_app, cnt_app, e2, e2, e2, e2]
    have := g.m
    have := h.c38
    have := h.c62
    omega
  · rw [cnt_app, cnt_app, e2, e2]
    have := g.o
    have := h.c40
    omega
theorem cut_to {y : Str} {r : Int} (h0 : 0 ≤ r) (h1 : r ≤ y.length) : cutS y none (some r) = tS ((TL.tl y).take r.toNat) := by
  unfold cutS
  have e1 : HT.sIx y.length 0 none = 0 := rfl
  have e2 : HT.sIx y.length y.length (some r) = r.toNat := by
    simp only [HT.sIx]
    split <;> omega
  rw [e1, e2]
  rfl
theorem cut_from {y : Str} {r : Int} (h0 : 0 ≤ r) (h1 : r ≤ (y.length : Int) + 1) : ∃ j, r.toNat ≤ j + 1 ∧ (r ≤ y.length → j = r.toNat) ∧ (y.length < r → j = y.length) ∧ cutS y (some r) none = tS ((TL.tl y).drop j) := by
  unfold cutS
  have e1 : HT.sIx y.length y.length none = y.length := rfl
  refine ⟨HT.sIx y.length 0 (some r), ?_, ?_, ?_, ?_⟩
  · simp only [HT.sIx]
    split <;> omega
  · intro h
    simp only [HT.sIx]
    split <;> omega
  · intro h
    simp only [HT.sIx]
    split <;> omega
  · rw [e1, List.take_of_length_le (by rw [List.length_drop, TL.len_tl]; exact Nat.le_refl _)]
    rfl
theorem app_sb {y a b : Str} (h : Txb y) (la : a.length + b.length ≤ 20) (ma : cnt 38 a + cnt 62 a + (cnt 38 b + cnt 62 b) ≤ 5) (oa : cnt 40 a + cnt 40 b ≤ 5) : SB ((a ++ y) ++ b) := by
  have := h.l
  have := h.c38
  have := h.c62
  have := h.c40
  refine ⟨by rw [lcat, lcat]; omega, by rw [cnt_app, cnt_app, cnt_app, cnt_app]; omega, by rw [cnt_app, cnt_app]; omega⟩
theorem app_sb1 {y b : Str} (h : Txb y) (la : b.length ≤ 20) (ma : cnt 38 b + cnt 62 b ≤ 5) (oa : cnt 40 b ≤ 5) : SB (y ++ b) := by
  have := h.l
  have := h.c38
  have := h.c62
  have := h.c40
  refine ⟨by rw [lcat]; omega, by rw [cnt_app, cnt_app]; omega, by rw [cnt_app]; omega⟩
theorem app_sb2 {y b : Str} (h : Txb y) (la : b.length ≤ 20) (ma : cnt 38 b + cnt 62 b ≤ 5) (oa : cnt 40 b ≤ 5) : SB (b ++ y) := by
  have := h.l
  have := h.c38
  have := h.c62
  have := h.c40
  refine ⟨by rw [lcat]; omega, by rw [cnt_app, cnt_app]; omega, by rw [cnt_app]; omega⟩
theorem repl_sb {y a b : Str} (h : Txb y) {c m w w2 w4 : Nat} (hc : 1 ≤ cnt c a) (hm : cnt c y ≤ m) (h1 : b.length ≤ a.length + w) (h2 : cnt 38 b + cnt 62 b ≤ cnt 38 a + cnt 62 a + w2) (h4 : cnt 40 b ≤ cnt 40 a + w4) (k1 : m * w ≤ 100) (k2 : m * w2 ≤ 20) (k4 : m * w4 ≤ 32) :
    (Txt.replace y a b).length ≤ 1074 ∧ SB (Txt.replace y a b) := by
  have r1 := repl_mu mu_len (z := b) hc hm h1
  have r2 := repl_mu (mu_add (mu_cnt 38) (mu_cnt 62)) (z := b) hc hm h2
  have r4 := repl_mu (mu_cnt 40) (z := b) hc hm h4
  have := h.l
  have := h.c38
  have := h.c62
  have := h.c40
  have r1 : (Txt.replace y a b).length ≤ y.length + m * w := r1
  have r2 : cnt 38 (Txt.replace y a b) + cnt 62 (Txt.replace y a b) ≤ cnt 38 y + cnt 62 y + m * w2 := r2
  exact ⟨by omega, by omega, by omega, by omega⟩
theorem dbl_sb {y : Str} (h : Txb y) : (Txt.replace y "(" "((").length ≤ 1006 ∧ (Txt.replace (Txt.replace y "(" "((") ")" "))").length ≤ 1040 ∧ SB (Txt.replace (Txt.replace y "(" "((") ")" "))") := by
  have a1 := repl_mu mu_len (x := y) (y := "(") (z := "((") (c := 40) (w := 1) (m := 32) (by decide) h.c40 (by decide)
  have a2 := repl_mu (mu_add (mu_cnt 38) (mu_cnt 62)) (x := y) (y := "(") (z := "((") (c := 40) (w := 0) (m := 32) (by decide) h.c40 (by decide)
  have a4 := repl_mu (mu_cnt 40) (x := y) (y := "(") (z := "((") (c := 40) (w := 1) (m := 32) (by decide) h.c40 (by decide)
  have a5 := repl_mu (mu_cnt 41) (x := y) (y := "(") (z := "((") (c := 40) (w := 0) (m := 32) (by decide) h.c40 (by decide)
  have h41 := h.c41
  have b1 := repl_mu mu_len (x := Txt.replace y "(" "((") (y := ")") (z := "))") (c := 41) (w := 1) (m := 32) (by decide) (by omega) (by decide)
  have b2 := repl_mu (mu_add (mu_cnt 38) (mu_cnt 62)) (x := Txt.replace y "(" "((") (y := ")") (z := "))") (c := 41) (w := 0) (m := 32) (by decide) (by omega) (by decide)
  have b4 := repl_mu (mu_cnt 40) (x := Txt.replace y "(" "((") (y := ")") (z := "))") (c := 41) (w := 0) (m := 32) (by decide) (by omega) (by decide)
  have := h.l
  have := h.c38
  have := h.c62
  have := h.c40
  have a1 : (Txt.replace y "(" "((").length ≤ y.length + 32 * 1 := a1
  have b1 : (Txt.replace (Txt.replace y "(" "((") ")" "))").length ≤ (Txt.replace y "(" "((").length + 32 * 1 := b1
  have a2 : cnt 38 (Txt.replace y "(" "((") + cnt 62 (Txt.replace y "(" "((") ≤ cnt 38 y + cnt 62 y + 32 * 0 := a2
  have b2 : cnt 38 (Txt.replace (Txt.replace y "(" "((") ")" "))") + cnt 62 (Txt.replace (Txt.replace y "(" "((") ")" "))") ≤ cnt 38 (Txt.replace y "(" "((") + cnt 62 (Txt.replace y "(" "((") + 32 * 0 := b2
  exact ⟨by omega, by omega, by omega, by omega, by omega⟩
theorem up_cnt {c : Nat} (hc : c = 38 ∨ c = 62 ∨ c = 40) : ∀ l : List Nat, (l.map PyProof.Rows.up1).count c = l.count c
  | [] => rfl
  | x :: l => by
    rw [List.map_cons, List.count_cons, List.count_cons, up_cnt hc l]
    have : (PyProof.Rows.up1 x == c) = (x == c) := by
      rw [Bool.eq_iff_iff, beq_iff_eq, beq_iff_eq]
      unfold PyProof.Rows.up1
      split <;> omega
    rw [this]
theorem up_sb {y : Str} (h : Txb y) : SB (Txt.upper y) := by
  have e : Txt.upper y = tS ((TL.tl y).map PyProof.Rows.up1) := by
    rw [PyProof.Rows.upper_ascii (x := y) h.asc]
    refine TL.ext_tl ?_
    show (Array.map PyProof.Rows.up1 y.cps).toList = ((TL.tl y).map PyProof.Rows.up1).toArray.toList
    simp
  have ct : ∀ c, c = 38 ∨ c = 62 ∨ c = 40 → cnt c (Txt.upper y) = cnt c y := fun c hc => by
    rw [e]
    show ((TL.tl y).map PyProof.Rows.up1).toArray.toList.count c = _
    rw [List.toList_toArray, up_cnt hc]
    rfl
  refine ⟨?_, ?_, ?_⟩
  · rw [e, tS_len, List.length_map, ← TL.len_tl]
    have := h.l
    omega
  · rw [ct 38 (by simp), ct 62 (by simp)]
    have := h.c38
    have := h.c62
    omega
  · rw [ct 40 (by simp)]
    have := h.c40
    omega
theorem rev_mu {μ : Str → Nat} (h : Mu μ) (x s : Str) : μ (Txt.join s (Txt.split x s).reverse) = μ x := by
  have h1 := mu_tjoin h s (ps := (Txt.split x s).reverse) (by simpa using split_ne x s)
  have h2 := mu_split h x s
  rw [List.map_reverse, List.sum_reverse, List.length_reverse] at h1
  omega
theorem dup_mu {μ : Str → Nat} (h : Mu μ) (x s : Str) {ini : List Str} {z : Str} (e : Txt.split x s = ini ++ [z]) : μ (Txt.join s (Txt.split x s ++ [z])) ≤ 2 * μ x + μ s := by
  have h1 := mu_tjoin h s (ps := Txt.split x s ++ [z]) (by simp)
  have h2 := mu_split h x s
  have h3 := sum_mem (f := μ) (show z ∈ Txt.split x s by rw [e]; simp)
  rw [List.map_append, List.sum_append, List.length_append, Nat.add_mul] at h1
  simp only [List.map_cons, List.map_nil, List.sum_cons, List.sum_nil, List.length_cons, List.length_nil] at h1
  obtain ⟨k, ek⟩ : ∃ k, (Txt.split x s).length = k + 1 := ⟨(Txt.split x s).length - 1, by have := List.length_pos_iff.mpr (split_ne x s); omega⟩
  rw [ek, Nat.add_mul, Nat.one_mul] at h1 h2
  omega
theorem nine_sb {h0 hl : Str} (j : Jb h0) (e : Eb hl) : SB ((Txt.join " & " (Txt.split h0 " & ").reverse ++ " => ") ++ hl) ∧ (Txt.join " & " (Txt.split h0 " & ").reverse).length = h0.length := by
  have r := fun {μ : Str → Nat} (h : Mu μ) => rev_mu h h0 " & "
  have l1 := r mu_len
  have k1 : (" => " : Str).length = 4 := rfl
  have k2 : cnt 38 " => " = 0 := by decide
  have k3 : cnt 62 " => " = 1 := by decide
  have k4 : cnt 40 " => " = 0 := by decide
  have := j.l; have := j.c38; have := j.c62; have := j.c40
  have := e.l; have := e.c38; have := e.c62; have := e.c40
  refine ⟨⟨by rw [lcat, lcat, l1, k1]; omega, by rw [cnt_app, cnt_app, cnt_app, cnt_app, r (mu_cnt 38), r (mu_cnt 62), k2, k3]; omega, by rw [cnt_app, cnt_app, r (mu_cnt 40), k4]; omega⟩, l1⟩
theorem ten_sb {h0 hl : Str} (j : Jb h0) (e : Eb hl) {ini : List Str} {z : Str} (ez : Txt.split h0 " & " = ini ++ [z]) : SB ((Txt.join " & " (Txt.split h0 " & " ++ [z]) ++ " => ") ++ hl) ∧ (Txt.join " & " (Txt.split h0 " & " ++ [z])).length ≤ 1500 := by
  have r := fun {μ : Str → Nat} (h : Mu μ) => dup_mu h h0 " & " ez
  have l1 : (Txt.join " & " (Txt.split h0 " & " ++ [z])).length ≤ 2 * h0.length + 3 := r mu_len
  have k1 : (" => " : Str).length = 4 := rfl
  have k2 : cnt 38 " => " = 0 := by decide
  have k3 : cnt 62 " => " = 1 := by decide
  have k4 : cnt 40 " => " = 0 := by decide
  have g2 : cnt 38 " & " = 1 := by decide
  have g3 : cnt 62 " & " = 0 := by decide
  have g4 : cnt 40 " & " = 0 := by decide
  have m38 := r (mu_cnt 38)
  have m62 := r (mu_cnt 62)
  have m40 := r (mu_cnt 40)
  have := j.l; have := j.c38; have := j.c62; have := j.c40
  have := e.l; have := e.c38; have := e.c62; have := e.c40
  refine ⟨⟨by rw [lcat, lcat, k1]; omega, by rw [cnt_app, cnt_app, cnt_app, cnt_app, k2, k3]; omega, by rw [cnt_app, cnt_app, k4]; omega⟩, by omega⟩
theorem eleven_sb {hl : Str} (e : Eb hl) : SB (Txt.join "=" (Txt.split hl "=").reverse) := by
  have r := fun {μ : Str → Nat} (h : Mu μ) => rev_mu h hl "="
  have l1 : (Txt.join "=" (Txt.split hl "=").reverse).length = hl.length := r mu_len
  have := e.l; have := e.c38; have := e.c62; have := e.c40
  exact ⟨by omega, by rw [r (mu_cnt 38), r (mu_cnt 62)]; omega, by rw [r (mu_cnt 40)]; omega⟩
theorem hl_sb {hl b : Str} (e : Eb hl) (la : b.length ≤ 20) (ma : cnt 38 b + cnt 62 b ≤ 5) (oa : cnt 40 b ≤ 5) : SB (b ++ hl) := by
  have := e.l; have := e.c38; have := e.c62; have := e.c40
  exact ⟨by rw [lcat]; omega, by rw [cnt_app, cnt_app]; omega, by rw [cnt_app]; omega⟩
theorem Jb.sb {z : Str} (j : Jb z) : SB z := by
  have := j.l; have := j.c38; have := j.c62; have := j.c40
  exact ⟨by omega, by omega, by omega⟩
end K13
/-! _law_spoilt. -/
namespace K13
open PySem PySem.Spec PyProof.Rows L2 Kx CwR
def AllSB (xs : List V) : Prop := ∀ v, v ∈ xs → ∃ z, v = .str z ∧ SB z
theorem AllSB.app {xs ys : List V} (h : AllSB xs) (k : AllSB ys) : AllSB (xs ++ ys) := fun v hv => (List.mem_append.mp hv).elim (h v) (k v)
theorem AllSB.cons {z : Str} {xs : List V} (h : SB z) (k : AllSB xs) : AllSB (.str z :: xs) := fun v hv => by
  rcases List.mem_cons.mp hv with rfl | hv
  · exact ⟨z, rfl, h⟩
  · exact k v hv
theorem AllSB.nil : AllSB [] := fun v hv => nomatch hv
theorem app_empty (x : Str) : x ++ "" = x := TL.ext_tl (by rw [TL.tl_append]; simp; rfl)
section
variable {P : Program} {w : World} {K : PySem.W.Frag} {mg : Str → Option Value} {base : Heap}
def spSp (K : PySem.W.Frag) : Sp := fun vs H Q _ => ∃ (a : Addr) (n : Nat) (y : Str), vs = [.ref a, .str y] ∧ Dice H a n ∧ n + 10 < cap ∧ Txb y ∧ ∀ z H', But a H H' → Dice H' a (n + 3) → SB z → Q (.str z) H'
theorem ok_sp (T : Tx K mg) : FnOk P w K mg base CX0 4 T.a_law_spoilt T.d_law_spoilt ["dice", "text"] (spSp K) := by
  have nd := sc__law_spoilt.nd
  have GR := ok_roll (P := P) (w := w) (base := base) T
  have GK := ok_pick (P := P) (w := w) (base := base) T
  refine okT T.f_law_spoilt sc__law_spoilt (by decide +kernel) (by decide) (fun vs H Q E h => ?_) (fun cdv A outer s H vs Q E hr h => ?_)
  · obtain ⟨a, n, y, rfl, _⟩ := h
    rfl
  obtain ⟨a, n, y, rfl, hd, hn, tb, q⟩ := h
  refine ⟨_, (psst_cons (PST.of (ps_par (i := 2) (j := 3) (by rfl) nd rfl rfl (by decide) rfl rfl (pa_cons (pe_call GR (hr.mono (by omega)) (by rfl) T.g_law_roll T.f_law_roll.kp T.n_law_roll .nil pass0 (pa_cons (pv 0) (pa_cons (pe_op op_add (pe_callB call_len_str (by rfl) T.b_len (by decide +kernel) (pa_cons (pv 1) pa_nil)) pe_int) pa_nil))) (pa_cons (pe_call GK (hr.mono (by omega)) (by rfl) T.g_law_pick T.f_law_pick.kp T.n_law_pick .nil pass0 (pa_cons (pv 0) (pa_cons (pe_op op_cat (pe_callTy (call_list_text (by rfl)) (by rfl) T.b_list (by decide +kernel) (pa_cons pe_str pa_nil)) (pe_lst (pa_cons pe_str (pa_cons pe_str (pa_cons pe_str (pa_cons pe_str pa_nil)))))) pa_nil))) pa_nil)) (by rfl)))
      (psst_cons (PST.of (ps_set (i := 4) nd rfl (.inl rfl) (pe_bm PySem.F.plainAttrs_str PySem.F.slot_str_split PySem.F.type_str_split mt_split (pv 1) (pa_cons pe_str pa_nil))))
      (psst_cons (PST.of (ps_set (i := 5) nd rfl (.inl rfl) (pe_bm PySem.F.plainAttrs_str PySem.F.slot_str_split PySem.F.type_str_split mt_split (pe_ix ix_list (pv 4) pe_int (fun _ _ => rfl)) (pa_cons pe_str pa_nil))))
      (psst_cons (PST.of (ps_set (i := 6) nd rfl (.inl rfl) (pe_lst (pa_cons (pe_op op_add_str (pe_op op_add_str (pe_slice sl_str (pv 1) po_none (po_some (pv 2))) (pv 3)) (pe_slice sl_str (pv 1) (po_some (pv 2)) po_none)) (pa_cons (pe_op op_add_str (pe_slice sl_str (pv 1) po_none (po_some (pv 2))) (pe_slice sl_str (pv 1) (po_some (pe_op op_add (pv 2) pe_int)) po_none)) (pa_cons (pe_op op_add_str (pe_op op_add_str (pe_slice sl_str (pv 1) po_none (po_some (pv 2))) (pv 3)) (pe_slice sl_str (pv 1) (po_some (pe_op op_add (pv 2) pe_int)) po_none)) (pa_cons (pe_op op_add_str (pv 1) pe_str) pa_nil)))))))
      (psst_cons (pst_set (i := 6) nd rfl (.inl rfl) (pet_op op_cat (PET.of (pv 6)) (pet_lst (pat_cons (PET.of (pe_op op_add_str pe_str (pv 1))) (pat_cons (pet_replC (pv 1)) (pat_cons (pet_replC (pv 1)) (pat_cons (pet_replC (pv 1)) pat_nil)))))))
      (psst_cons (PST.of (ps_set (i := 6) nd rfl (.inl rfl) (pe_op op_cat (pv 6) (pe_lst (pa_cons (pe_op op_add_str (pe_op op_add_str (pe_bm PySem.F.plainAttrs_str PySem.F.slot_str_join PySem.F.type_str_join mt_join pe_str (pa_cons (pe_revL (pv 5)) pa_nil)) pe_str) (pe_ix ix_list (pv 4) (pe_un un_neg pe_int) (fun _ _ => rfl))) (pa_cons (pe_op op_add_str (pe_op op_add_str (pe_bm PySem.F.plainAttrs_str PySem.F.slot_str_join PySem.F.type_str_join mt_join pe_str (pa_cons (pe_op op_cat (pv 5) (pe_slice sl_list (pv 5) (po_some (pe_un un_neg pe_int)) po_none)) pa_nil)) pe_str) (pe_ix ix_list (pv 4) (pe_un un_neg pe_int) (fun _ _ => rfl))) pa_nil))))))
      (psst_cons (PST.of (ps_set (i := 6) nd rfl (.inl rfl) (pe_op op_cat (pv 6) (pe_lst (pa_cons (pe_bm PySem.F.plainAttrs_str PySem.F.slot_str_join PySem.F.type_str_join mt_join pe_str (pa_cons (pe_revL (pe_bm PySem.F.plainAttrs_str PySem.F.slot_str_split PySem.F.type_str_split mt_split (pe_ix ix_list (pv 4) (pe_un un_neg pe_int) (fun _ _ => rfl)) (pa_cons pe_str pa_nil))) pa_nil)) (pa_cons (pe_op op_add_str (pv 1) pe_str) (pa_cons (pe_op op_add_str pe_str (pe_ix ix_list (pv 4) (pe_un un_neg pe_int) (fun _ _ => rfl))) (pa_cons (pe_ix ix_list (pv 4) pe_int (fun _ _ => rfl)) pa_nil))))))))
      (psst_cons (pst_set (i := 6) nd rfl (.inl rfl) (pet_op op_cat (PET.of (pv 6)) (pet_lst (pat_cons (pet_replC (pv 1)) (pat_cons (pet_replT (pet_replC (pv 1))) (pat_cons (PET.of (pe_bm0 PySem.F.plainAttrs_str PySem.F.slot_str_upper PySem.F.type_str_upper mt_upper (pv 1))) (pat_cons (PET.of (pe_op op_add_str (pe_op op_add_str pe_str (pv 1)) pe_str)) pat_nil)))))))
      (psst_one (PST.of (ps_ret (pe_call GK (hr.mono (by omega)) (by rfl) T.g_law_pick T.f_law_pick.kp T.n_law_pick .nil pass0 (pa_cons (pv 0) (pa_cons (pv 6) pa_nil)))))))))))))), ?_⟩
  have sz : 100000 ≤ sizeLine := by decide
  have ly := tb.l
  have eaz := hd
  obtain ⟨_, _, _, ha, _⟩ := eaz
  have cp : cap = 1000000 := rfl
  refine ⟨_, rfl, _, rfl, y, rfl, by omega, _, _, rfl, rfl, a, n, _, rfl, hd, by omega, by omega, by omega, fun r H1 b1 d1 r0 rm => ⟨_, rfl, "ab(),= &>", rfl, by decide, fun g ng => ⟨by decide, fun e ne => ⟨g, e, _, _, rfl, rfl, same_put ne _ _ upd_same, upd_same, by decide, fun M nM => ?_⟩⟩⟩⟩
  have sM := fun o : HO => (same_put ng).trans ((same_put ne).trans (same_put (o := o) nM))
  have a1 := d1
  obtain ⟨_, _, _, ha1, _⟩ := a1
  refine ⟨a, M, n + 1, _, rfl, d1.up (sM _), by omega, SqL.of upd_same, (ne_of_none (((same_put ng).trans (same_put ne)) _ _ ha1) nM).symm, by decide, by decide, fun i v H2 b2 d2 gi => ⟨_, _, rfl, ?_⟩⟩
  have gi : (signs.map V.str)[i]? = some v := gi
  rw [List.getElem?_map] at gi
  obtain ⟨sg, hsg, rfl⟩ := Option.map_eq_some_iff.mp gi
  have g := sg_of (List.mem_of_getElem? hsg)
  have bb := b1.trans ((But.of (sM _)).trans b2)
  clear gi hsg ng ne nM sM ha1
  -- halves, rows
  refine ⟨_, rfl, rfl, y, " => ", rfl, rfl, rfl, by omega, fun p np => ?_⟩
  obtain ⟨h0, hr0, hl, e0, ⟨ini, e1⟩, jb, eb⟩ := tb.hs
  have l0 := jb.l
  have l1 := eb.l
  have s3 := same_put (o := .lst ((Txt.split y " => ").map V.str)) np
  have hp : (upd H2 p (.lst ((Txt.split y " => ").map V.str))) p = some (.lst ((Txt.split y " => ").map V.str)) := upd_same
  have at0 : atI ((Txt.split y " => ").map V.str) 0 = some (V.str h0) := by rw [e0]; exact atI_nat (j := 0) rfl
  have at1 : atI ((Txt.split y " => ").map V.str) (-1) = some (V.str hl) := by
    rw [e1, List.map_append]
    exact atI_last _ _
  generalize (Txt.split y " => ").map V.str = hv at s3 hp at0 at1 ⊢
  generalize upd H2 p (.lst hv) = H3 at s3 hp ⊢
  dsimp only [gName]
  refine ⟨_, rfl, p, _, 0, .str h0, rfl, rfl, SqL.of hp, at0, rfl, h0, " & ", rfl, rfl, rfl, by omega, fun p2 np2 => ?_⟩
  have s4 := same_put (o := .lst ((Txt.split h0 " & ").map V.str)) np2
  have hp2 : (upd H3 p2 (.lst ((Txt.split h0 " & ").map V.str))) p2 = some (.lst ((Txt.split h0 " & ").map V.str)) := upd_same
  have hp' := s4 _ _ hp
  have d4 := (d2.up s3).up s4
  have b4 := bb.trans ((But.of s3).trans (But.of s4))
  generalize upd H3 p2 (.lst ((Txt.split h0 " & ").map V.str)) = H4 at s4 hp2 hp' d4 b4 ⊢
  dsimp only [gName]
  -- the first four
  have cl : ∀ lo hi, (cutS y lo hi).length ≤ 974 := fun lo hi => by
    refine Nat.le_trans ?_ ly
    unfold cutS
    rw [show ∀ l : List Nat, (⟨l.toArray⟩ : Str).length = l.length from tS_len, List.length_take, List.length_drop]
    have : y.cps.toList.length = y.length := Array.length_toList ..
    omega
  have A0 := cut_to (y := y) r0 (by omega)
  obtain ⟨j, j1, j2, j3, B0⟩ := cut_from (y := y) (r := r) r0 (by omega)
  obtain ⟨k, k1, k2, k3, C0⟩ := cut_from (y := y) (r := r + 1) (by omega) (by omega)
  have ej : j = r.toNat := j2 (by omega)
  have t1 : SB ((cutS y none (some r) ++ sg) ++ cutS y (some r) none) := by
    rw [A0, B0]
    exact cut_sb tb g (by omega)
  have kj : r.toNat ≤ k := by
    by_cases h : r + 1 ≤ y.length
    · have := k2 h; omega
    · have := k3 (by omega); omega
  have t2 : SB (cutS y none (some r) ++ cutS y (some (r + 1)) none) := by
    have := cut_sb tb (s := "") ⟨by decide, by decide, by decide⟩ kj
    rw [app_empty] at this
    rw [A0, C0]
    exact this
  have t3 : SB ((cutS y none (some r) ++ sg) ++ cutS y (some (r + 1)) none) := by
    rw [A0, C0]
    exact cut_sb tb g kj
  have c1 := cl none (some r)
  have c2 := cl (some r) none
  have c3 := cl (some (r + 1)) none
  have gl := g.l
  clear A0 B0 C0
  refine ⟨_, rfl, _, rfl, _, rfl, y, rfl, by omega, _, rfl, _, _, rfl, rfl, by omega, _, rfl, _, rfl, _, rfl, y, rfl, by omega, _, _, rfl, rfl, by rw [lcat]; omega,
    _, rfl, _, rfl, _, rfl, y, rfl, by omega, _, rfl, _, rfl, _, _, rfl, rfl, _, rfl, y, rfl, by omega, _, _, rfl, rfl, by omega,
    _, rfl, _, rfl, _, rfl, y, rfl, by omega, _, rfl, _, _, rfl, rfl, by omega, _, rfl, _, rfl, _, _, rfl, rfl, _, rfl, y, rfl, by omega, _, _, rfl, rfl, by rw [lcat]; omega,
    _, rfl, _, _, rfl, rfl, by show y.length + 1 ≤ _; omega, by show 4 ≤ _; omega, fun L1 nL1 => ?_⟩
  have all1 : AllSB [.str ((cutS y none (some r) ++ sg) ++ cutS y (some r) none), .str (cutS y none (some r) ++ cutS y (some (r + 1)) none), .str ((cutS y none (some r) ++ sg) ++ cutS y (some (r + 1)) none), .str (y ++ " ")] :=
    .cons t1 (.cons t2 (.cons t3 (.cons (app_sb1 tb (by decide) (by decide) (by decide)) .nil)))
  have l1' : [V.str ((cutS y none (some r) ++ sg) ++ cutS y (some r) none), .str (cutS y none (some r) ++ cutS y (some (r + 1)) none), .str ((cutS y none (some r) ++ sg) ++ cutS y (some (r + 1)) none), .str (y ++ " ")].length = 4 := rfl
  have s5 := same_put (o := .lst [V.str ((cutS y none (some r) ++ sg) ++ cutS y (some r) none), .str (cutS y none (some r) ++ cutS y (some (r + 1)) none), .str ((cutS y none (some r) ++ sg) ++ cutS y (some (r + 1)) none), .str (y ++ " ")]) nL1
  have hL1 : (upd H4 L1 (.lst [V.str ((cutS y none (some r) ++ sg) ++ cutS y (some r) none), .str (cutS y none (some r) ++ cutS y (some (r + 1)) none), .str ((cutS y none (some r) ++ sg) ++ cutS y (some (r + 1)) none), .str (y ++ " ")])) L1 = some _ := upd_same
  generalize [V.str ((cutS y none (some r) ++ sg) ++ cutS y (some r) none), .str (cutS y none (some r) ++ cutS y (some (r + 1)) none), .str ((cutS y none (some r) ++ sg) ++ cutS y (some (r + 1)) none), .str (y ++ " ")] = xs1 at all1 l1' s5 hL1 ⊢
  have s5' := s4.trans s5
  have hp2 := s5 _ _ hp2
  have hp' := s5 _ _ hp'
  have d5 := d4.up s5
  have b5 := b4.trans (But.of s5)
  generalize upd H4 L1 (.lst xs1) = H5 at s5 hL1 hp2 hp' d5 b5 ⊢
  dsimp only [gName]
  clear t1 t2 t3 c1 c2 c3 s3 s4 s5' s5 hp
  -- the next four
  obtain ⟨q1, u1⟩ := repl_sb tb (a := " & ") (b := " &") (c := 38) (m := 2) (w := 0) (w2 := 0) (w4 := 0) (by decide) tb.c38 (by decide) (by decide) (by decide) (by decide) (by decide) (by decide)
  obtain ⟨q2, u2⟩ := repl_sb tb (a := " => ") (b := "=>") (c := 62) (m := 1) (w := 0) (w2 := 0) (w4 := 0) (by decide) tb.c62 (by decide) (by decide) (by decide) (by decide) (by decide) (by decide)
  obtain ⟨q3, u3⟩ := repl_sb tb (a := "=") (b := " = ") (c := 61) (m := 5) (w := 2) (w2 := 0) (w4 := 0) (by decide) tb.c61 (by decide) (by decide) (by decide) (by decide) (by decide) (by decide)
  obtain ⟨q4, u4⟩ := repl_sb tb (a := "a") (b := "b") (c := 97) (m := 974) (w := 0) (w2 := 0) (w4 := 0) (by decide) (Nat.le_trans (List.count_le_length) (by rw [show y.cps.toList.length = y.length from Array.length_toList ..]; exact ly)) (by decide) (by decide) (by decide) (by decide) (by decide) (by decide)
  refine ⟨_, rfl, _, rfl, _, _, rfl, rfl, by show 1 + y.length ≤ _; omega, _, rfl, y, rfl, by show y.length + (y.length + 1) * 2 ≤ _; omega, _, rfl, y, rfl, by show y.length + (y.length + 1) * 2 ≤ _; omega, _, rfl, y, rfl, by show y.length + (y.length + 1) * 3 ≤ _; omega, by show 4 ≤ _; omega, fun e ne => ⟨L1, e, xs1, _, rfl, rfl, same_put ne _ _ hL1, upd_same, by rw [l1']; show 4 + 4 ≤ _; omega, fun L2 nL2 => ?_⟩⟩
  have all2 : AllSB (xs1 ++ [.str (" " ++ y), .str (Txt.replace y " & " " &"), .str (Txt.replace y " => " "=>"), .str (Txt.replace y "=" " = ")]) :=
    all1.app (.cons (app_sb2 tb (by decide) (by decide) (by decide)) (.cons u1 (.cons u2 (.cons u3 .nil))))
  have l2' : (xs1 ++ [V.str (" " ++ y), .str (Txt.replace y " & " " &"), .str (Txt.replace y " => " "=>"), .str (Txt.replace y "=" " = ")]).length = 8 := by rw [List.length_append, l1']; rfl
  have s6 := fun o : HO => (same_put (o := .lst [.str (" " ++ y), .str (Txt.replace y " & " " &"), .str (Txt.replace y " => " "=>"), .str (Txt.replace y "=" " = ")]) ne).trans (same_put (o := o) nL2)
  have s6 := s6 (.lst (xs1 ++ [.str (" " ++ y), .str (Txt.replace y " & " " &"), .str (Txt.replace y " => " "=>"), .str (Txt.replace y "=" " = ")]))
  have hL2 : (upd (upd H5 e (.lst [.str (" " ++ y), .str (Txt.replace y " & " " &"), .str (Txt.replace y " => " "=>"), .str (Txt.replace y "=" " = ")])) L2 (.lst (xs1 ++ [.str (" " ++ y), .str (Txt.replace y " & " " &"), .str (Txt.replace y " => " "=>"), .str (Txt.replace y "=" " = ")]))) L2 = some _ := upd_same
  generalize xs1 ++ [V.str (" " ++ y), .str (Txt.replace y " & " " &"), .str (Txt.replace y " => " "=>"), .str (Txt.replace y "=" " = ")] = xs2 at all2 l2' s6 hL2 ⊢
  have hp2 := s6 _ _ hp2
  have hp' := s6 _ _ hp'
  have d6 := d5.up s6
  have b6 := b5.trans (But.of s6)
  generalize upd (upd H5 e (.lst [.str (" " ++ y), .str (Txt.replace y " & " " &"), .str (Txt.replace y " => " "=>"), .str (Txt.replace y "=" " = ")])) L2 (.lst xs2) = H6 at s6 hL2 hp2 hp' d6 b6 ⊢
  dsimp only [gName]
  clear s6 hL1 all1 ne nL1 nL2 d5 b5 d4 b4
  -- the next two
  obtain ⟨rini, rz, er⟩ : ∃ i z, Txt.split h0 " & " = i ++ [z] := by
    rcases List.eq_nil_or_concat (Txt.split h0 " & ") with h | ⟨i, z, h⟩
    · exact absurd h (split_ne _ _)
    · exact ⟨i, z, by rw [h, List.concat_eq_append]⟩
  obtain ⟨n9, n9l⟩ := nine_sb jb eb
  obtain ⟨n10, n10l⟩ := ten_sb jb eb er
  have ls := len_split h0 " & "
  have lk : (Txt.split h0 " & ").length ≤ 730 := by
    have := cnt_split (c := 38) (y := " & ") (by decide) h0
    have := jb.c38
    omega
  have e3 : (" & " : Str).length = 3 := rfl
  have e4 : (" => " : Str).length = 4 := rfl
  refine ⟨_, rfl, rfl, _, rfl, p2, _, rfl, SqL.of hp2, fun g1 ng1 => ?_⟩
  have sg1 := same_put (o := .lst ((Txt.split h0 " & ").map V.str).reverse) ng1
  have hg1 : (upd H6 g1 (.lst ((Txt.split h0 " & ").map V.str).reverse)) g1 = some (.lst (((Txt.split h0 " & ").reverse).map V.str)) := by rw [upd_same, List.map_reverse]
  have hp2 := sg1 _ _ hp2
  have hp' := sg1 _ _ hp'
  have hL2 := sg1 _ _ hL2
  have d7 := d6.up sg1
  have b7 := b6.trans (But.of sg1)
  generalize upd H6 g1 (.lst ((Txt.split h0 " & ").map V.str).reverse) = H7 at sg1 hg1 hp2 hp' hL2 d7 b7 ⊢
  refine ⟨_, g1, (Txt.split h0 " & ").reverse, rfl, rfl, .inl (SqL.of hg1), by rw [List.map_reverse, List.sum_reverse, List.length_reverse, e3]; omega, _, _, rfl, rfl, by rw [n9l, e4]; omega, _, rfl, 1, rfl, p, _, -1, .str hl, rfl, rfl, SqL.of hp', at1, _, _, rfl, rfl, by rw [lcat, n9l, e4]; omega,
    rfl, _, rfl, _, rfl, 1, rfl, _, rfl, p2, _, rfl, SqL.of hp2, fun g2 ng2 => ?_⟩
  have ec : cutV ((Txt.split h0 " & ").map V.str) (some (-1)) none = [V.str rz] := by
    rw [er, List.map_append]
    have h1 : HT.sIx (rini.map V.str ++ [rz].map V.str).length 0 (some (-1)) = rini.length := by
      simp only [HT.sIx, List.length_append, List.length_map, List.length_cons, List.length_nil]
      split <;> omega
    have h2 : HT.sIx (rini.map V.str ++ [rz].map V.str).length (rini.map V.str ++ [rz].map V.str).length none = (rini.map V.str ++ [rz].map V.str).length := rfl
    unfold cutV
    rw [h1, h2]
    simp
  rw [ec]
  have sg2 := same_put (o := .lst [V.str rz]) ng2
  have hg2 : (upd H7 g2 (.lst [V.str rz])) g2 = some (.lst [V.str rz]) := upd_same
  have hp2 := sg2 _ _ hp2
  have hp' := sg2 _ _ hp'
  have hL2 := sg2 _ _ hL2
  have d8 := d7.up sg2
  have b8 := b7.trans (But.of sg2)
  generalize upd H7 g2 (.lst [V.str rz]) = H8 at sg2 hg2 hp2 hp' hL2 d8 b8 ⊢
  refine ⟨p2, g2, _, _, rfl, rfl, hp2, hg2, by rw [List.length_map]; show _ + 1 ≤ _; omega, fun g3 ng3 => ?_⟩
  have sg3 := same_put (o := .lst ((Txt.split h0 " & ").map V.str ++ [V.str rz])) ng3
  have hg3 : (upd H8 g3 (.lst ((Txt.split h0 " & ").map V.str ++ [V.str rz]))) g3 = some (.lst ((Txt.split h0 " & " ++ [rz]).map V.str)) := by rw [upd_same, List.map_append]; rfl
  have hp' := sg3 _ _ hp'
  have hL2 := sg3 _ _ hL2
  have d9 := d8.up sg3
  have b9 := b8.trans (But.of sg3)
  generalize upd H8 g3 (.lst ((Txt.split h0 " & ").map V.str ++ [V.str rz])) = H9 at sg3 hg3 hp' hL2 d9 b9 ⊢
  have lrz : rz.length ≤ h0.length := split_le (by rw [er]; simp)
  refine ⟨_, g3, Txt.split h0 " & " ++ [rz], rfl, rfl, .inl (SqL.of hg3), by rw [List.map_append, List.sum_append, List.length_append, e3]; simp only [List.map_cons, List.map_nil, List.sum_cons, List.sum_nil, List.length_cons, List.length_nil]; omega, _, _, rfl, rfl, by rw [e4]; omega, _, rfl, 1, rfl, p, _, -1, .str hl, rfl, rfl, SqL.of hp', at1, _, _, rfl, rfl, by rw [lcat, e4]; omega,
    by show 2 ≤ _; omega, fun e ne => ⟨L2, e, xs2, _, rfl, rfl, same_put ne _ _ hL2, upd_same, by rw [l2']; show 8 + 2 ≤ _; omega, fun L3 nL3 => ?_⟩⟩
  generalize hN9 : ((Txt.join " & " (Txt.split h0 " & ").reverse ++ " => ") ++ hl) = z9 at n9 nL3 ⊢
  generalize hN10 : ((Txt.join " & " (Txt.split h0 " & " ++ [rz]) ++ " => ") ++ hl) = z10 at n10 nL3 ⊢
  have all3 : AllSB (xs2 ++ [.str z9, .str z10]) := all2.app (.cons n9 (.cons n10 .nil))
  have l3' : (xs2 ++ [V.str z9, .str z10]).length = 10 := by rw [List.length_append, l2']; rfl
  have sA := (same_put (o := .lst [V.str z9, .str z10]) ne).trans (same_put (o := .lst (xs2 ++ [V.str z9, .str z10])) nL3)
  have hL3 : (upd (upd H9 e (.lst [V.str z9, .str z10])) L3 (.lst (xs2 ++ [V.str z9, .str z10]))) L3 = some _ := upd_same
  generalize xs2 ++ [V.str z9, .str z10] = xs3 at all3 l3' sA hL3 ⊢
  have hp' := sA _ _ hp'
  have dA := d9.up sA
  have bA := b9.trans (But.of sA)
  generalize upd (upd H9 e (.lst [V.str z9, .str z10])) L3 (.lst xs3) = HA at sA hL3 hp' dA bA ⊢
  dsimp only [gName]
  clear sA hL2 all2 ne nL3 sg1 sg2 sg3 hg1 hg2 hg3 ng1 ng2 ng3 d6 d7 d8 d9 b6 b7 b8 b9 hp2
  -- four more
  have el11 := eleven_sb eb
  have lsp := len_split hl "="
  have lkp : (Txt.split hl "=").length ≤ 242 := by
    have := cnt_split (c := 61) (y := "=") (by decide) hl
    have := eb.c61
    omega
  have e5 : ("=" : Str).length = 1 := rfl
  refine ⟨_, rfl, rfl, _, rfl, 1, rfl, p, _, -1, .str hl, rfl, rfl, SqL.of hp', at1, rfl, hl, "=", rfl, rfl, rfl, by omega, fun g4 ng4 => ⟨g4, _, rfl, SqL.of upd_same, fun g5 ng5 => ?_⟩⟩
  have sB := (same_put (o := .lst ((Txt.split hl "=").map V.str)) ng4).trans (same_put (o := .lst ((Txt.split hl "=").map V.str).reverse) ng5)
  have hg5 : (upd (upd HA g4 (.lst ((Txt.split hl "=").map V.str))) g5 (.lst ((Txt.split hl "=").map V.str).reverse)) g5 = some (.lst (((Txt.split hl "=").reverse).map V.str)) := by rw [upd_same, List.map_reverse]
  have hp' := sB _ _ hp'
  have hL3 := sB _ _ hL3
  have dB := dA.up sB
  have bB := bA.trans (But.of sB)
  generalize upd (upd HA g4 (.lst ((Txt.split hl "=").map V.str))) g5 (.lst ((Txt.split hl "=").map V.str).reverse) = HB at sB hg5 hp' hL3 dB bB ⊢
  refine ⟨_, g5, (Txt.split hl "=").reverse, rfl, rfl, .inl (SqL.of hg5), by rw [List.map_reverse, List.sum_reverse, List.length_reverse, e5]; omega, _, rfl, _, _, rfl, rfl, by show y.length + 9 ≤ _; omega, _, rfl, 1, rfl, p, _, -1, .str hl, rfl, rfl, SqL.of hp', at1, _, _, rfl, rfl, by show 9 + hl.length ≤ _; omega,
    _, rfl, p, _, 0, .str h0, rfl, rfl, SqL.of hp', at0, by show 4 ≤ _; omega, fun e ne => ⟨L3, e, xs3, _, rfl, rfl, same_put ne _ _ hL3, upd_same, by rw [l3']; show 10 + 4 ≤ _; omega, fun L4 nL4 => ?_⟩⟩
  generalize hN11 : Txt.join "=" (Txt.split hl "=").reverse = z11 at el11 nL4 ⊢
  have all4 : AllSB (xs3 ++ [.str z11, .str (y ++ " => never"), .str ("never => " ++ hl), .str h0]) := all3.app (.cons el11 (.cons (app_sb1 tb (by decide) (by decide) (by decide)) (.cons (hl_sb eb (by decide) (by decide) (by decide)) (.cons jb.sb .nil))))
  have l4' : (xs3 ++ [V.str z11, .str (y ++ " => never"), .str ("never => " ++ hl), .str h0]).length = 14 := by rw [List.length_append, l3']; rfl
  have sC := (same_put (o := .lst [V.str z11, .str (y ++ " => never"), .str ("never => " ++ hl), .str h0]) ne).trans (same_put (o := .lst (xs3 ++ [V.str z11, .str (y ++ " => never"), .str ("never => " ++ hl), .str h0])) nL4)
  have hL4 : (upd (upd HB e (.lst [V.str z11, .str (y ++ " => never"), .str ("never => " ++ hl), .str h0])) L4 (.lst (xs3 ++ [V.str z11, .str (y ++ " => never"), .str ("never => " ++ hl), .str h0]))) L4 = some _ := upd_same
  generalize xs3 ++ [V.str z11, .str (y ++ " => never"), .str ("never => " ++ hl), .str h0] = xs4 at all4 l4' sC hL4 ⊢
  have dC := dB.up sC
  have bC := bB.trans (But.of sC)
  generalize upd (upd HB e (.lst [V.str z11, .str (y ++ " => never"), .str ("never => " ++ hl), .str h0])) L4 (.lst xs4) = HC at sC hL4 dC bC ⊢
  dsimp only [gName]
  clear sC sB hL3 all3 ne nL4 hg5 ng4 ng5 dA dB bA bB hp'
  -- the last four
  obtain ⟨v1, v2, v3⟩ := dbl_sb tb
  refine ⟨_, rfl, _, rfl, y, rfl, by show y.length + (y.length + 1) * 1 ≤ _; omega, _, rfl, y, rfl, by show y.length + (y.length + 1) * 2 ≤ _; omega, _, rfl, by show (Txt.replace y "(" "((").length + ((Txt.replace y "(" "((").length + 1) * 2 ≤ _; omega,
    _, rfl, rfl, y, rfl, rfl, by omega, _, rfl, _, _, rfl, rfl, by show 1 + y.length ≤ _; omega, _, _, rfl, rfl, by rw [lcat]; show (1 + y.length) + 1 ≤ _; omega, by show 4 ≤ _; omega, fun e ne => ⟨L4, e, xs4, _, rfl, rfl, same_put ne _ _ hL4, upd_same, by rw [l4']; show 14 + 4 ≤ _; omega, fun L5 nL5 => ?_⟩⟩
  have naL : L5 ≠ a := Dice.ne (dC.up (same_put ne)) nL5
  have all5 : AllSB (xs4 ++ [.str (Txt.replace y "a" "b"), .str (Txt.replace (Txt.replace y "(" "((") ")" "))"), .str (Txt.upper y), .str (("(" ++ y) ++ ")")]) := all4.app (.cons u4 (.cons v3 (.cons (up_sb tb) (.cons (app_sb tb (by decide) (by decide) (by decide)) .nil))))
  have l5' : (xs4 ++ [V.str (Txt.replace y "a" "b"), .str (Txt.replace (Txt.replace y "(" "((") ")" "))"), .str (Txt.upper y), .str (("(" ++ y) ++ ")")]).length = 18 := by rw [List.length_append, l4']; rfl
  have sD := (same_put (o := .lst [V.str (Txt.replace y "a" "b"), .str (Txt.replace (Txt.replace y "(" "((") ")" "))"), .str (Txt.upper y), .str (("(" ++ y) ++ ")")]) ne).trans (same_put (o := .lst (xs4 ++ [V.str (Txt.replace y "a" "b"), .str (Txt.replace (Txt.replace y "(" "((") ")" "))"), .str (Txt.upper y), .str (("(" ++ y) ++ ")")])) nL5)
  have hL5 : (upd (upd HC e (.lst [V.str (Txt.replace y "a" "b"), .str (Txt.replace (Txt.replace y "(" "((") ")" "))"), .str (Txt.upper y), .str (("(" ++ y) ++ ")")])) L5 (.lst (xs4 ++ [V.str (Txt.replace y "a" "b"), .str (Txt.replace (Txt.replace y "(" "((") ")" "))"), .str (Txt.upper y), .str (("(" ++ y) ++ ")")]))) L5 = some _ := upd_same
  generalize xs4 ++ [V.str (Txt.replace y "a" "b"), .str (Txt.replace (Txt.replace y "(" "((") ")" "))"), .str (Txt.upper y), .str (("(" ++ y) ++ ")")] = xs5 at all5 l5' sD hL5 ⊢
  have dD := dC.up sD
  have bD := bC.trans (But.of sD)
  generalize upd (upd HC e (.lst [V.str (Txt.replace y "a" "b"), .str (Txt.replace (Txt.replace y "(" "((") ")" "))"), .str (Txt.upper y), .str (("(" ++ y) ++ ")")])) L5 (.lst xs5) = HD at sD hL5 dD bD ⊢
  dsimp only [gName]
  refine ⟨_, rfl, _, rfl, a, L5, n + 1 + 1, xs5, rfl, dD, by omega, SqL.of hL5, naL, by omega, by omega, fun i v HE bE dE gi => ?_⟩
  obtain ⟨z, rfl, hz⟩ := all5 v (List.mem_of_getElem? gi)
  exact q z HE (bD.trans bE) dE hz
end
end K13
/-! Sorted couples. -/
namespace K13
open PySem PySem.Spec PyProof.Rows L2 Kx PySem.W
def Cf (d : PyData) : Prop := ∃ a b, d = .tuple [a, b] ∧ formedD a = true ∧ formedD b = true
theorem cf_eqv {x y : PyData} (hx : Cf x) (hy : Cf y) : PyData.eqv x y = true ↔ x = y := by
  obtain ⟨a, b, rfl, ha, hb⟩ := hx
  obtain ⟨c, d, rfl, hc, hd⟩ := hy
  simp only [PyData.eqv, PyData.eqvAll, Bool.and_true, Bool.and_eq_true, eqv_formed a c ha hc, eqv_formed b d hb hd, PyData.tuple.injEq, List.cons.injEq, and_true]
theorem cf_alike {x y : PyData} (hx : Cf x) (hy : Cf y) : alike x y = true := by
  obtain ⟨a, b, rfl, ha, hb⟩ := hx
  obtain ⟨c, d, rfl, hc, hd⟩ := hy
  simp [alike, alikeAll, alike_formed a c ha hc, alike_formed b d hb hd]
theorem cf_keys {x y : PyData} (hx : Cf x) (hy : Cf y) (h : keyToks x = keyToks y) : x = y := by
  have al := cf_alike hx hy
  cases q : PyData.eqv x y with
  | true => exact (cf_eqv hx hy).mp q
  | false =>
    have z := (toks_eqv x y al).2 q [] [.inl 0]
    rw [h, List.append_nil] at z
    have z1 : PyProof.Rows.lexLt itemOrd (keyToks y) (keyToks y) = false := lex_irrefl _
    have z2 := lex_pre (keyToks y) [] [.inl 0]
    rw [List.append_nil, z, z1] at z2
    exact absurd z2 (by decide)
theorem cf_lt {x y : PyData} (hx : Cf x) (hy : Cf y) (h : ¬ ltR y x) (ne : x ≠ y) : ltR x y := by
  cases h1 : dataLt x y with
  | true => exact h1
  | false => exact absurd (cf_keys hx hy (lex_total (O := itemOrd) (keyToks x) (keyToks y) h1 (Bool.eq_false_iff.mpr h))) ne
theorem sort_le {β : Type} {k : β → PyData} {l : List β} : (l.mergeSort (dataLe false k)).Pairwise fun a b => ¬ ltR (k b) (k a) := by
  have tr : ∀ a b c : β, dataLe false k a b = true → dataLe false k b c = true → dataLe false k a c = true := fun a b c h1 h2 => by
    have h1 : dataLt (k b) (k a) = false := by simpa [dataLe_eq] using h1
    have h2 : dataLt (k c) (k b) = false := by simpa [dataLe_eq] using h2
    rw [dataLe_eq]
    show (!dataLt (k c) (k a)) = true
    cases h : dataLt (k c) (k a) with
    | false => rfl
    | true =>
      rcases lex_negTrans _ (keyToks (k b)) _ h with z | z
      · exact absurd (show dataLt (k c) (k b) = true from z) (by rw [h2]; decide)
      · exact absurd (show dataLt (k b) (k a) = true from z) (by rw [h1]; decide)
  have tot : ∀ a b : β, (dataLe false k a b || dataLe false k b a) = true := fun a b => by
    rw [dataLe_eq]
    show (!dataLt (k b) (k a) || !dataLt (k a) (k b)) = true
    cases h : dataLt (k b) (k a) with
    | false => rfl
    | true =>
      cases h2 : dataLt (k a) (k b) with
      | false => rfl
      | true => exact (ltR_asymm (x := k b) (y := k a) h h2).elim
  refine (List.pairwise_mergeSort tr tot l).imp fun {a b} h z => ?_
  have h1 : dataLt (k b) (k a) = false := by simpa [dataLe_eq] using h
  unfold ltR at z
  rw [h1] at z
  cases z
def adj (L : List PyData) : List Bool := (L.zip (L.drop 1)).map fun p => PyData.eqv p.1 p.2
theorem adj_pair : ∀ {L : List PyData}, (∀ d, d ∈ L → Cf d) → (L.Pairwise fun a b => ¬ ltR b a) → (adj L).any id = false → L.Pairwise ltR
  | [], _, _, _ => .nil
  | [x], _, _, _ => List.pairwise_singleton _ _
  | x :: y :: L, c, p, h => by
    have e : adj (x :: y :: L) = PyData.eqv x y :: adj (y :: L) := by simp [adj]
    rw [e, List.any_cons, Bool.or_eq_false_iff] at h
    rw [List.pairwise_cons] at p
    have ih := adj_pair (fun d hd => c d (List.mem_cons_of_mem _ hd)) p.2 h.2
    have lt : ltR x y := cf_lt (c x List.mem_cons_self) (c y (List.mem_cons_of_mem _ List.mem_cons_self)) (p.1 y List.mem_cons_self) (fun z => by
      have := (cf_eqv (c x List.mem_cons_self) (c y (List.mem_cons_of_mem _ List.mem_cons_self))).mpr z
      rw [show PyData.eqv x y = false from h.1] at this
      cases this)
    rw [List.pairwise_cons]
    refine ⟨fun z hz => ?_, ih⟩
    rcases List.mem_cons.mp hz with rfl | hz
    · exact lt
    · exact ltR_trans lt (List.rel_of_pairwise_cons ih hz)
theorem pair_adj : ∀ {L : List PyData}, (∀ d, d ∈ L → Cf d) → L.Pairwise ltR → (adj L).any id = false
  | [], _, _ => rfl
  | [x], _, _ => rfl
  | x :: y :: L, c, p => by
    have e : adj (x :: y :: L) = PyData.eqv x y :: adj (y :: L) := by simp [adj]
    rw [List.pairwise_cons] at p
    rw [e, List.any_cons, pair_adj (fun d hd => c d (List.mem_cons_of_mem _ hd)) p.2, Bool.or_false]
    cases q : PyData.eqv x y with
    | false => rfl
    | true =>
      have z := (cf_eqv (c x List.mem_cons_self) (c y (List.mem_cons_of_mem _ List.mem_cons_self))).mp q
      have lt := p.1 y List.mem_cons_self
      rw [z] at lt
      exact absurd lt (ltR_irrefl _)
theorem cfs_eqv : ∀ {l m : List PyData}, (∀ d, d ∈ l → Cf d) → (∀ d, d ∈ m → Cf d) → (PyData.eqvAll l m = true ↔ l = m)
  | [], [], _, _ => by simp [PyData.eqvAll]
  | [], _ :: _, _, _ => by simp [PyData.eqvAll]
  | _ :: _, [], _, _ => by simp [PyData.eqvAll]
  | x :: l, y :: m, h1, h2 => by
    rw [PyData.eqvAll, Bool.and_eq_true, cf_eqv (h1 x List.mem_cons_self) (h2 y List.mem_cons_self), cfs_eqv (fun d hd => h1 d (List.mem_cons_of_mem _ hd)) (fun d hd => h2 d (List.mem_cons_of_mem _ hd)), List.cons.injEq]
theorem due_sorted {zs : List Item} (c : ∀ d, d ∈ zs.map Prod.snd → Cf d) :
    ((zs.mergeSort (dataLe false Prod.snd)).map Prod.snd = zs.map Prod.snd ∧ (adj (zs.map Prod.snd)).any id = false) ↔ (zs.map Prod.snd).Pairwise ltR := by
  constructor
  · rintro ⟨e, a⟩
    refine adj_pair c ?_ a
    rw [← e, List.pairwise_map]
    exact sort_le (k := Prod.snd)
  · intro p
    refine ⟨?_, pair_adj c p⟩
    rw [List.mergeSort_of_pairwise]
    rw [List.pairwise_map] at p
    refine p.imp fun {a b} h => ?_
    rw [dataLe_eq]
    show (!dataLt b.2 a.2) = true
    cases q : dataLt b.2 a.2 with
    | false => rfl
    | true => exact (ltR_asymm (x := a.2) (y := b.2) h q).elim
end K13
/-! _law_due. -/
namespace K13
open PySem PySem.Spec PyProof.Rows L2 Kx
theorem split_nil (s : Str) (hs : TL.tl s ≠ []) (hk : s.cps.all (· < 256) = true) : Txt.split "" s = [("" : Str)] := by
  refine TL.map_tl_inj ?_
  rw [TL.split_spl _ _ hs (TL.kind_ok hk)]
  cases TL.tl s <;> rfl
theorem fact_nil : factR "" = none := by
  unfold factR
  rw [split_nil _ (by decide) (by decide +kernel)]
  have := factP_snoc [] ""
  rw [List.nil_append] at this
  have e : conclD "" = none := by
    unfold conclD coupD
    rw [if_neg (by decide), split_nil _ (by decide) (by decide +kernel)]
  rw [this, e]
  rfl
abbrev rIs0 : R2 := fun x y H Q => y = .non ∧ Q (.bl (decide (x = .non))) H
theorem wordsP_cnt (c : Nat) : ∀ ps : List Str, ((wordsP ps).map (cnt c)).sum ≤ (ps.map (cnt c)).sum
  | [] => Nat.le_refl _
  | p :: ps => by
    have ih := wordsP_cnt c ps
    have h := cnt_sum c " & " (Txt.split p " & ")
    rw [StrLaws.join_split] at h
    rw [show wordsP (p :: ps) = Txt.split p " & " ++ wordsP ps from List.flatMap_cons, List.map_append, List.sum_append, List.map_cons, List.sum_cons]
    omega
theorem due_long {n : Nat} {ini : List Str} {last : Str} (h : ¬ ini.length + 1 ≤ 2) : dueP n ini last = none := by
  unfold dueP
  cases conclT n last with
  | none => rfl
  | some c =>
    show ((allS _).bind _) = none
    cases allS ((wordsP ini).map (pairT n)) with
    | none => rfl
    | some ds => exact if_neg fun z => h z.1
theorem pairT_cf {n : Nat} {x : Str} {d : PyData} (h : pairT n x = some d) : Cf d := by
  obtain ⟨a, b, u, v, e, ea, eb, _, rfl⟩ := pairT_ex h
  exact ⟨u, v, rfl, (read_sound _ _ _ ea).2, (read_sound _ _ _ eb).2⟩
theorem cf_lay {d : PyData} (h : Cf d) : d.canLay0 = true ∧ d.hasDict = false ∧ pureD d = true ∧ d ≠ .none := by
  obtain ⟨a, b, rfl, fa, fb⟩ := h
  have h1 := lay_formed a fa
  have h2 := lay_formed b fb
  exact ⟨by simp [PyData.canLay0, PyData.canLayAll0, h1.1, h2.1], by simp [PyData.hasDict, PyData.hasDictAll, h1.2, h2.2], pure_two fa fb, by simp⟩
theorem opts_lay : ∀ {os : List (Option PyData)}, (∀ o, o ∈ os → ∀ d, o = some d → Cf d) → PyData.canLayAll0 (os.map optD) = true ∧ PyData.hasDictAll (os.map optD) = false ∧ pureAll (os.map optD) = true
  | [], _ => ⟨rfl, rfl, rfl⟩
  | o :: os, h => by
    obtain ⟨i1, i2, i3⟩ := opts_lay fun z hz => h z (List.mem_cons_of_mem _ hz)
    have ho : (optD o).canLay0 = true ∧ (optD o).hasDict = false ∧ pureD (optD o) = true := by
      cases e : o with
      | none => exact ⟨rfl, rfl, rfl⟩
      | some d =>
        have f := cf_lay (h o List.mem_cons_self d e)
        exact ⟨f.1, f.2.1, f.2.2.1⟩
    rw [List.map_cons]
    simp [PyData.canLayAll0, PyData.hasDictAll, pureAll, i1, i2, i3, ho.1, ho.2.1, ho.2.2]
theorem dx_zip {K : PySem.W.Frag} {H : Hp} : ∀ {vs : List V} {L : List PyData}, DxAll K H vs L → (vs.zip L).map Prod.fst = vs ∧ (vs.zip L).map Prod.snd = L ∧ ∀ p, p ∈ vs.zip L → Dx K H p.1 p.2
  | [], [], _ => ⟨rfl, rfl, fun p h => nomatch h⟩
  | [], _ :: _, h => by cases h
  | _ :: _, [], h => by cases h
  | v :: vs, d :: L, h => by
    cases h with
    | cons a b =>
    obtain ⟨i1, i2, i3⟩ := dx_zip b
    refine ⟨by rw [List.zip_cons_cons, List.map_cons, i1], by rw [List.zip_cons_cons, List.map_cons, i2], fun p hp => ?_⟩
    rw [List.zip_cons_cons] at hp
    rcases List.mem_cons.mp hp with rfl | hp
    · exact a
    · exact i3 p hp
theorem zip_dxx {K : PySem.W.Frag} {H : Hp} : ∀ {zs : List Item}, (∀ p, p ∈ zs → Dx K H p.1 p.2) → DxAll K H (zs.map Prod.fst) (zs.map Prod.snd)
  | [], _ => .nil
  | p :: zs, h => .cons (h p List.mem_cons_self) (zip_dxx fun q hq => h q (List.mem_cons_of_mem _ hq))
theorem cfs_lay {n : Nat} : ∀ {L : List PyData}, (∀ d, d ∈ L → Cf d ∧ d.depth ≤ n) → PyData.canLayAll0 L = true ∧ PyData.hasDictAll L = false ∧ PyData.depthAll L ≤ n ∧ pureAll L = true
  | [], _ => ⟨rfl, rfl, by simp [PyData.depthAll], rfl⟩
  | d :: L, h => by
    obtain ⟨i1, i2, i3, i4⟩ := cfs_lay fun z hz => h z (List.mem_cons_of_mem _ hz)
    obtain ⟨c, dd⟩ := h d List.mem_cons_self
    obtain ⟨c1, c2, c3, _⟩ := cf_lay c
    refine ⟨by simp [PyData.canLayAll0, i1, c1], by simp [PyData.hasDictAll, i2, c2], ?_, by simp [pureAll, i4, c3]⟩
    rw [PyData.depthAll]
    omega
theorem pairT_depth {n : Nat} {x : Str} {d : PyData} (h : pairT n x = some d) (c : cnt 40 x < n) : d.depth ≤ n + 1 := by
  obtain ⟨a, b, u, v, e, ea, eb, _, rfl⟩ := pairT_ex h
  obtain ⟨c1, c2⟩ := side_cnt 40 e
  have h1 := (read_depth ea (by omega)).1
  have h2 := (read_depth eb (by omega)).1
  simp only [PyData.depth, PyData.depthAll]
  omega
theorem pairT_sz {n : Nat} {x : Str} {d : PyData} (h : pairT n x = some d) (l : x.length ≤ 2000) : szAll (sidesOf d) ≤ 5000 := by
  obtain ⟨a, b, u, v, e, ea, eb, _, rfl⟩ := pairT_ex h
  have one : ∀ {z : Str} {t : PyData}, readT n z.cps.toList = some t → szD t ≤ 2 * z.length + 2 := fun {z t} hz => by
    obtain ⟨e, f⟩ := read_sound _ _ _ hz
    have b := tree_bound t (tree_formed t f)
    have : z.length = (tx t).length := by rw [← e]; exact (Array.length_toList ..).symm
    omega
  have ls := len_split x "="
  rw [e] at ls
  simp only [List.map_cons, List.map_nil, List.sum_cons, List.sum_nil] at ls
  have h1 := one ea
  have h2 := one eb
  show szD u + (szD v + 0) ≤ 5000
  omega
section
variable {P : Program} {w : World} {K : PySem.W.Frag} {mg : Str → Option Value} {base : Heap}
def spDu (K : PySem.W.Frag) (n : Nat) : Sp := fun vs H Q _ => ∃ (x : Str), vs = [.str x] ∧ x.length ≤ 2000 ∧ cnt 38 x + cnt 62 x ≤ 90 ∧ cnt 40 x < n ∧ ∀ v H', Same H H' → Dx K H' v (readD (.str x)) → Q v H'
theorem ok_du (T : Tx K mg) (n : Nat) (n9 : n ≤ 180) : FnOk P w K mg base CX0 (n + 3) T.a_law_due T.d_law_due ["text"] (spDu K n) := by
  have nd := sc__law_due.nd
  have GP := ok_pd (P := P) (w := w) (base := base) T n n9
  have GC := ok_ct (P := P) (w := w) (base := base) T n
  refine T.f_law_due.ok sc__law_due (fun vs H Q E h => ?_) (fun cdv A outer s H vs Q E hr h => ?_)
  · obtain ⟨x, rfl, _⟩ := h
    rfl
  obtain ⟨y, rfl, ly, cy, c40, q⟩ := h
  refine ⟨_, (pss_cons (ps_if (PW.pt (pw_or (pt_not (pt_val (pe_callB call_isi (by rfl) T.b_isinstance (by decide +kernel) (pa_cons (pv 0) (pa_cons (pe_bltn (v := .ty "str") (by rfl) T.b_str (by decide +kernel) rfl) pa_nil))))) (pw_or1 (pt_cmpR op_eq (pv 0) pe_str (nomark _))))) (pss_one (ps_ret pe_str)) pss_nil)
      (pss_cons (ps_set (i := 1) nd rfl (.inl rfl) (pe_bm PySem.F.plainAttrs_str PySem.F.slot_str_split PySem.F.type_str_split mt_split (pv 0) (pa_cons pe_str pa_nil)))
      (pss_cons (ps_if (pt_cmpR op_gt (pe_callB call_len_seq (by rfl) T.b_len (by decide +kernel) (pa_cons (pv 1) pa_nil)) pe_int (nomark _)) (pss_one (ps_ret pe_str)) pss_nil)
      (C8.pss_cut (ps_set (i := 2) nd rfl (.inl rfl) (pe_ifExp (pt_cmpR op_eq (pe_callB call_len_seq (by rfl) T.b_len (by decide +kernel) (pa_cons (pv 1) pa_nil)) pe_int (nomark _)) (pe_lc (own := [("piece", 7)]) (g := (gName 7)) (tt := tYes) (by rfl) nd (pi_list (pe_bm PySem.F.plainAttrs_str PySem.F.slot_str_split PySem.F.type_str_split mt_split (pe_ix ix_list (pv 1) pe_int (fun _ _ => rfl)) (pa_cons pe_str pa_nil))) (blkOk_by (own := [("piece", 7)]) (N := N__law_due) (sc := defScope s__law_due) (by decide +kernel)) (fun _ _ _ _ _ => pg_name (i := 7) nd rfl (.inl rfl)) (fun _ _ _ _ _ => pts_nil) (fun _ _ _ _ _ => (pe_call GP (hr.mono (by omega)) (by rfl) T.g_law_pair_read T.f_law_pair_read.kp T.n_law_pair_read .nil pass0 (pa_cons (pv 7) pa_nil)))) (pe_lst pa_nil)))
      (C8.pss_cut (ps_set (i := 3) nd rfl (.inl rfl) (pe_ifExp (pt_cmpR op_eq (pe_ix ix_list (pv 1) (pe_un un_neg pe_int) (fun _ _ => rfl)) pe_str (nomark _)) pe_non (pe_call GP (hr.mono (by omega)) (by rfl) T.g_law_pair_read T.f_law_pair_read.kp T.n_law_pair_read .nil pass0 (pa_cons (pe_ix ix_list (pv 1) (pe_un un_neg pe_int) (fun _ _ => rfl)) pa_nil))))
      (C8.pss_cut (ps_if (PW.pt (pw_or (pt_cmpR (op_inN (room200 hr)) pe_non (pv 2) (by rfl)) (pw_or (PW.pt (pw_and (pt_cmpR op_isN (pv 3) pe_non (nomark _)) (pw_and1 (pt_cmpR op_ne (pe_ix ix_list (pv 1) (pe_un un_neg pe_int) (fun _ _ => rfl)) pe_str (nomark _))))) (pw_or1 (pt_cmpR (op_neF (room200 hr)) (pv 2) (pe_callB (cr_sortedF (room200 hr)) (by rfl) T.b_sorted (by decide +kernel) (pa_cons (pv 2) pa_nil)) (nomark _)))))) (pss_one (ps_ret pe_str)) pss_nil)
      (C8.pss_cut (ps_if (pt_cmpR (op_neNil hr.units) (pe_lc (own := [("one", 4), ("other", 5)]) (g := (gTup K 2 (gCons (gName 4) (gCons (gName 5) gNil)))) (by rfl) nd (pi_zip (by rfl) T.b_zip (pa_cons (pv 2) (pa_cons (pe_slice sl_list (pv 2) (po_some pe_int) po_none) pa_nil))) (blkOk_by (own := [("one", 4), ("other", 5)]) (N := N__law_due) (sc := defScope s__law_due) (by decide +kernel)) (fun _ _ _ _ _ => pg_tup rfl (pgs_cons (pg_name (i := 4) nd rfl (.inl rfl)) (pgs_cons (pg_name (i := 5) nd rfl (.inl rfl)) pgs_nil))) (fun _ _ _ _ _ => (pts_one (pt_cmpR (r := rEqF K) (op_eqF (room200 hr)) (pv 4) (pv 5) (nomark _)))) (fun _ _ _ _ _ => pe_int)) (pe_lst pa_nil) (nomark _)) (pss_one (ps_ret pe_str)) pss_nil)
      (pss_cons (ps_set (i := 6) nd rfl (.inl rfl) pe_dnewK)
      (pss_cons (ps_for PassesOwn.never rfl (pi_list (pe_op op_cat (pv 2) (pe_ifExp (pt_cmpR op_isN (pv 3) pe_non (nomark _)) (pe_lst pa_nil) (pe_lst (pa_cons (pv 3) pa_nil))))) (pg_tup rfl (pgs_cons (pg_name (i := 4) nd rfl (.inl rfl)) (pgs_cons (pg_name (i := 5) nd rfl (.inl rfl)) pgs_nil))) (pss_one (ps_if (PW.pt (pw_or (pt_not (pt_val (pe_call GC (hr.mono (by omega)) (by rfl) T.g_law_count T.f_law_count.kp T.n_law_count .nil pass0 (pa_cons (pv 4) (pa_cons (pv 6) pa_nil))))) (pw_or1 (pt_not (pt_val (pe_call GC (hr.mono (by omega)) (by rfl) T.g_law_count T.f_law_count.kp T.n_law_count .nil pass0 (pa_cons (pv 5) (pa_cons (pv 6) pa_nil)))))))) (pss_one (ps_ret pe_str)) pss_nil)))
      (pss_one (ps_ret (pe_tup (pa_cons (pe_callTy call_tuple_of (by rfl) T.b_tuple (by decide +kernel) (pa_cons (pv 2) pa_nil)) (pa_cons (pv 3) pa_nil)))))))))))))), ?_⟩
  have sz : 10000 ≤ sizeLine := by decide
  refine ⟨_, rfl, _, .ty "str", _, _, _, rfl, .ty _, (Dx.str (K := K) (H := H) y).ty, kit_ty (kit_str (.str y)), _, rfl, ?_⟩
  refine iteF ⟨_, rfl, rfl, _, rfl, ?_⟩
  by_cases e0 : y = ""
  · subst e0
    rw [show decide (V.str ("" : Str) = V.str ("" : Str)) = true from decide_eq_true rfl]
    refine iteT (q _ H (Same.refl H) ?_)
    have : readD (.str "") = .str "parse" := by
      show (factR "").getD _ = _
      rw [fact_nil]
      rfl
    rw [this]
    exact .str _
  rw [decide_eq_false (fun z => e0 (V.str.inj z))]
  refine iteF ⟨_, rfl, rfl, y, " => ", rfl, rfl, rfl, by omega, fun p np => ?_⟩
  have s1 := same_put (o := .lst ((Txt.split y " => ").map V.str)) np
  have hp : (upd H p (.lst ((Txt.split y " => ").map V.str))) p = some (.lst ((Txt.split y " => ").map V.str)) := upd_same
  obtain ⟨ini, last, ep⟩ := parts_ex y
  have psz := parts_sz ep ly cy
  have few : (wordsP ini).length ≤ 90 := Nat.le_trans (wordsP_len ini) psz.2
  have lens : ∀ z, z ∈ wordsP ini → z.length ≤ 2000 := fun z hz => by
    have := wordsP_sum ini
    have := sum_mem (f := fun x : Str => x.length) hz
    omega
  have c40s := cnt_sum 40 " => " (Txt.split y " => ")
  rw [StrLaws.join_split, ep, List.map_append, List.sum_append] at c40s
  simp only [List.map_cons, List.map_nil, List.sum_cons, List.sum_nil] at c40s
  have cl : cnt 40 last < n := by omega
  have cs : ∀ z, z ∈ wordsP ini → cnt 40 z < n := fun z hz => by
    have := wordsP_cnt 40 ini
    have := sum_mem (f := cnt 40) hz
    omega
  have rd : readD (.str y) = (dueP n ini last).getD (.str "parse") := by
    rw [due_eq (by omega) lens cl cs]
    show (factP (Txt.split y " => ")).getD _ = _
    rw [ep]
  have bad : dueP n ini last = none → ∀ H', Same H H' → Q (.str "parse") H' := fun e H' s' => q _ H' s' (by rw [rd, e]; exact .str _)
  have good : ∀ F, dueP n ini last = some F → ∀ v H', Same H H' → Dx K H' v F → Q v H' := fun F e v H' s' dv => q v H' s' (by rw [rd, e]; exact dv)
  clear q rd
  rw [ep, List.map_append] at s1 hp ⊢
  generalize upd H p (.lst (ini.map V.str ++ [last].map V.str)) = H1 at s1 hp ⊢
  have al := atI_last (ini.map V.str) (V.str last)
  dsimp only [gName]
  have elen : (((ini.map V.str ++ [last].map V.str).length : Nat) : Int) = (ini.length : Int) + 1 := by simp
  refine ⟨_, rfl, p, _, rfl, .inl (SqL.of hp), _, _, rfl, rfl, _, rfl, ?_⟩
  rw [elen]
  by_cases long : ini.length + 1 ≤ 2
  rotate_left
  · rw [decide_eq_true (show (2 : Int) < (ini.length : Int) + 1 by omega)]
    exact iteT (bad (due_long long) H1 s1)
  rw [decide_eq_false (show ¬ (2 : Int) < (ini.length : Int) + 1 by omega)]
  refine iteF ?_
  let os : List (Option PyData) := (wordsP ini).map (pairT n)
  have los : os.length = (wordsP ini).length := List.length_map ..
  have cfo : ∀ o, o ∈ os → ∀ d, o = some d → Cf d := fun o ho d e => by
    obtain ⟨x, hx, ex⟩ := List.mem_map.mp ho
    rw [e] at ex
    exact pairT_cf ex
  refine ⟨fun σ' H' => ∃ (D : Addr) (vs : List V), σ' = [some (.str y), some (.ref p), some (.ref D), none, none, none, none, none] ∧ Same H1 H' ∧ H' D = some (.lst vs) ∧ DxAll K H' vs (os.map optD), ?_, ?_⟩
  · refine ⟨_, rfl, p, _, rfl, .inl (SqL.of hp), rfl, _, rfl, ?_⟩
    rw [elen]
    cases ini with
    | nil =>
      exact iteF ⟨Nat.zero_le _, fun D nD => ⟨D, [], rfl, same_put nD, upd_same, .nil⟩⟩
    | cons h t =>
      have et : t = [] := List.eq_nil_of_length_eq_zero (by rw [List.length_cons] at long; omega)
      subst et
      have ewp : wordsP [h] = Txt.split h " & " := by simp [wordsP]
      have lh : h.length ≤ 2000 := by
        have := psz.1
        simp at this
        omega
      refine iteT ⟨_, rfl, p, _, 0, .str h, rfl, rfl, SqL.of hp, atI_nat (j := 0) rfl, rfl, h, " & ", rfl, rfl, rfl, by omega, fun r nr => ⟨r, rfl, ⟨_, SqL.of upd_same⟩, fun D nD => ?_⟩⟩
      have sr := same_put (o := .lst ((Txt.split h " & ").map V.str)) nr
      have hr3 : (upd H1 r (.lst ((Txt.split h " & ").map V.str))) r = some (.lst ((Txt.split h " & ").map V.str)) := upd_same
      generalize upd H1 r (.lst ((Txt.split h " & ").map V.str)) = H2 at sr hr3 nD ⊢
      rw [← ewp] at hr3
      refine lc_list (K := K) (a := r) (xs := (wordsP [h]).map V.str) (fun i G => Same H2 G ∧ ∃ vs, G D = some (.lst vs) ∧ DxAll K G vs ((os.take i).map optD)) ⟨same_put nD, [], upd_same, .nil⟩ (fun i G _ h => SqL.of (h.1 _ _ hr3)) ?_ ?_
      · rintro i x G hi ⟨sG, vs, eD, dv⟩
        rw [List.getElem?_map] at hi
        obtain ⟨z, hz, rfl⟩ := Option.map_eq_some_iff.mp hi
        have mz : z ∈ wordsP [h] := List.mem_of_getElem? hz
        have eo : os[i]? = some (pairT n z) := by
          show ((wordsP [h]).map (pairT n))[i]? = _
          rw [List.getElem?_map, hz]
          rfl
        refine ⟨rfl, (iteT (B := False) ?_ : if true = true then _ else False)⟩
        refine ⟨_, rfl, z, rfl, lens z mz, cs z mz, fun v G3 s3' dv3 => ?_⟩
        have e3 := s3' _ _ eD
        have lv := dv.length
        rw [List.length_map, List.length_take] at lv
        refine ⟨vs, e3, by omega, fun b o hb => ?_, vs ++ [v], upd_same, ?_⟩
        · rw [upd_ne (ne_of_none hb nD)]
          exact s3' _ _ (sG b o hb)
        · rw [List.take_add_one, eo, Option.toList_some, List.map_append]
          have p1 := (opts_lay (os := os.take i) fun o ho => cfo o (List.mem_of_mem_take ho)).2.2
          have p2 := (opts_lay (os := [pairT n z]) fun o ho => cfo o (by rw [List.mem_singleton.mp ho]; exact List.mem_of_getElem? eo)).2.2
          have p2 : pureD (optD (pairT n z)) = true := by simpa [pureAll] using p2
          exact DxAll.append (DxAll.ts (Tups.lst e3) _ _ p1 (dv.up s3')) (.cons (Dx.ts (Tups.lst e3) _ _ p2 dv3) .nil)
      · rintro G ⟨sG, vs, eD, dv⟩
        rw [List.length_map, ← los, List.take_length] at dv
        exact ⟨D, vs, rfl, sr.trans sG, eD, dv⟩
  rintro σ' H2 ⟨D, vs, rfl, s2, eD, dv⟩
  have hp2 := s2 _ _ hp
  refine ⟨fun σ' H' => ∃ (u : V), σ' = [some (.str y), some (.ref p), some (.ref D), some u, none, none, none, none] ∧ Same H2 H' ∧ Dx K H' u (optD (if last = "never" then none else pairT n last)), ?_, ?_⟩
  · refine ⟨_, rfl, 1, rfl, p, _, -1, .str last, rfl, rfl, SqL.of hp2, al, rfl, _, rfl, ite2 (fun e => ?_) (fun e => ?_)⟩
    · have e : last = "never" := V.str.inj (of_decide_eq_true e)
      exact ⟨.non, rfl, Same.refl _, by rw [if_pos e]; exact .non⟩
    · have e : ¬ last = "never" := fun z => by rw [z] at e; simp at e
      refine ⟨_, rfl, 1, rfl, p, _, -1, .str last, rfl, rfl, SqL.of hp2, al, last, rfl, by omega, cl, fun v H' s' dv => ⟨v, rfl, s', by rw [if_neg e]; exact dv⟩⟩
  rintro σ' H3 ⟨u, rfl, s3, du⟩
  have eD3 := s3 _ _ eD
  have dv3 := dv.up s3
  have hp3 := s3 _ _ hp2
  have s13 := s1.trans (s2.trans s3)
  have s0 : Same H H3 := s1.trans (s2.trans s3)
  obtain ⟨y1, y2, y3⟩ := opts_lay cfo
  -- if None in pairs or (told is None and halves[-1] != "never") or pairs != sorted(pairs)
  refine ⟨fun σ' H' => ∃ (c : PyData) (L : List PyData), σ' = [some (.str y), some (.ref p), some (.ref D), some u, none, none, none, none] ∧ Same H3 H' ∧ conclT n last = some c ∧ allS os = some L ∧ Dx K H' u c ∧ ((adj L).any id = false → L.Pairwise ltR), ?_, ?_⟩
  rotate_left
  · rintro σ' H4 ⟨c, L, rfl, s4, hc, ea, du4, srt⟩
    have s04 := s0.trans s4
    have eos := allS_some ea
    have emap : os.map optD = L := by
      rw [eos, List.map_map]
      show L.map (fun d => d) = L
      simp
    have dv4 := dv3.up s4
    rw [emap] at dv4
    have cfL : ∀ d, d ∈ L → Cf d := fun d hd => cfo (some d) (by rw [eos]; exact List.mem_map_of_mem hd) d rfl
    have lL : L.length ≤ 90 := by
      have : os.length = L.length := by rw [eos, List.length_map]
      omega
    have dpL : ∀ d, d ∈ L → Cf d ∧ d.depth ≤ n + 1 := fun d hd => ⟨cfL d hd, by
      have ho : some d ∈ os := by rw [eos]; exact List.mem_map_of_mem hd
      obtain ⟨x, hx, ex⟩ := List.mem_map.mp ho
      exact pairT_depth ex (cs x hx)⟩
    have lv := dv4.length
    have eD4 := s4 _ _ eD3
    have dueE : dueP n ini last = if L.Pairwise ltR ∧ Func (rowsAll (sidesD (L ++ endOf c))) then some (.tuple [.tuple L, c]) else none := by
      unfold dueP
      rw [hc]
      show ((allS os).bind _) = _
      rw [ea]
      show (if _ then _ else _) = _
      simp only [long, true_and]
    have cc : ∀ d, d ∈ endOf c → Cf d ∧ d.depth ≤ n + 1 := fun d hd => by
      unfold conclT at hc
      split at hc
      · cases hc
        cases hd
      · have f := pairT_cf hc
        rw [endOf_some (cf_lay f).2.2.2, List.mem_singleton] at hd
        subst hd
        exact ⟨f, pairT_depth hc cl⟩
    -- equal neighbours
    refine ⟨fun σ' H' => σ' = [some (.str y), some (.ref p), some (.ref D), some u, none, none, none, none] ∧ Same H4 H' ∧ L.Pairwise ltR, ?_, ?_⟩
    · refine ⟨_, rfl, _, rfl, 1, rfl, ?_⟩
      dsimp only [tNoPart]
      refine ⟨D, vs, rfl, SqL.of eD4, fun D3 nD3 => ?_⟩
      have ec : cutV vs (some 1) none = vs.drop 1 := by
        cases vs with
        | nil => rfl
        | cons a b => exact cut_one (by simp)
      rw [ec]
      have s5 := same_put (o := .lst (vs.drop 1)) nD3
      have eD5 := s5 _ _ eD4
      have dv5 := dv4.up s5
      have eD3' : (upd H4 D3 (.lst (vs.drop 1))) D3 = some (.lst (vs.drop 1)) := upd_same
      generalize upd H4 D3 (.lst (vs.drop 1)) = G3 at s5 eD5 dv5 eD3' ⊢
      refine ⟨D, D3, vs, vs.drop 1, rfl, SqL.of eD5, SqL.of eD3', fun D4 nD4 => ?_⟩
      have ladj : (adj L).length = vs.length - 1 := by
        simp [adj, lv]
      refine lc_it (walk_zip (n := vs.length - 1) (by rw [List.length_drop]; omega)) (fun i G4 => Same G3 G4 ∧ ∃ ws : List V, G4 D4 = some (.lst ws) ∧ ws.length ≤ i ∧ ws.isEmpty = !((adj L).take i).any id) ⟨same_put nD4, [], upd_same, Nat.le_refl _, rfl⟩ (fun i G4 _ h => ⟨SqL.of (h.1 _ _ eD5), SqL.of (h.1 _ _ eD3')⟩) ?_ ?_
      · rintro i x G4 G5 hi ⟨sG4, ws, eD4', lws, ews⟩ ⟨T5, u5, v5, rfl, nT5, rfl, hu5, hv5⟩
        have hi1 : i < L.length := by omega
        have hi2 : i + 1 < L.length := by omega
        have hu5 : vs[i]? = some u5 := hu5
        have hv5 : (vs.drop 1)[i]? = some v5 := hv5
        rw [List.getElem?_drop, Nat.add_comm] at hv5
        have g1 := List.getElem?_eq_getElem hi1
        have g2 := List.getElem?_eq_getElem hi2
        obtain ⟨u', hu', du⟩ := dv5.get g1
        obtain ⟨v', hv', dv⟩ := dv5.get g2
        rw [hu5] at hu'
        rw [hv5] at hv'
        cases hu'
        cases hv'
        have s6 := sG4.trans (same_put (o := .tup [u5, v5]) nT5)
        have eD6 := same_put (o := .tup [u5, v5]) nT5 _ _ eD4'
        have eT5 : (upd G4 T5 (.tup [u5, v5])) T5 = some (.tup [u5, v5]) := upd_same
        generalize upd G4 T5 (.tup [u5, v5]) = G5 at s6 eD6 eT5 ⊢
        obtain ⟨c1, d1⟩ := dpL _ (List.getElem_mem hi1)
        obtain ⟨c2, d2⟩ := dpL _ (List.getElem_mem hi2)
        have ea1 : (adj L)[i]? = some (PyData.eqv L[i] L[i + 1]) := by
          have ez : (L.zip (L.drop 1))[i]? = some (L[i], L[i + 1]) := List.getElem?_zip_eq_some.mpr ⟨g1, by rw [List.getElem?_drop, Nat.add_comm]; exact g2⟩
          unfold adj
          rw [List.getElem?_map, ez]
          rfl
        have et : ((adj L).take (i + 1)).any id = (((adj L).take i).any id || PyData.eqv L[i] L[i + 1]) := by
          rw [List.take_add_one, ea1, List.any_append]
          simp
        refine ⟨T5, _, rfl, SqT.of eT5, rfl, _, _, rfl, _, _, rfl, rfl, rfl, _, rfl, _, rfl, L[i], L[i + 1], Dx.dp (cf_lay c1).2.1 (du.up s6), Dx.dp (cf_lay c2).2.1 (dv.up s6), (cf_lay c1).1, (cf_lay c2).1, by omega, _, rfl, ?_⟩
        cases q : PyData.eqv L[i] L[i + 1] with
        | false => exact iteF ⟨s6, ws, eD6, by omega, by rw [et, q, Bool.or_false]; exact ews⟩
        | true =>
          refine iteT ⟨ws, eD6, by omega, fun b o hb => ?_, ws ++ [.int 1], upd_same, by simp; omega, ?_⟩
          · rw [upd_ne (ne_of_none hb nD4)]
            exact s6 _ _ hb
          · rw [et, q]
            simp
      · rintro G4 ⟨sG4, ws, eD4', lws, ews⟩
        rw [← ladj, List.take_length] at ews
        refine ⟨Nat.zero_le _, fun e ne => ?_⟩
        have s6 := s5.trans (sG4.trans (same_put (o := .lst []) ne))
        refine ⟨D4, e, ws, rfl, rfl, SqL.of (same_put (o := .lst []) ne _ _ eD4'), SqL.of upd_same, _, rfl, ?_⟩
        rw [ews, show ((fun b => !b) (!(adj L).any id)) = (adj L).any id from Bool.not_not _]
        cases q : (adj L).any id with
        | true =>
          refine iteT (bad ?_ _ (s04.trans s6))
          rw [dueE, if_neg]
          rintro ⟨z, _⟩
          rw [pair_adj cfL z] at q
          cases q
        | false => exact iteF ⟨rfl, s6, srt q⟩
    rintro σ' H5 ⟨rfl, s5, pw⟩
    have s05 := s04.trans s5
    have eD5 := s5 _ _ eD4
    have dv5 := dv4.up s5
    have du5 := du4.up s5
    refine fun pc npc => ?_
    have sC := same_put (o := .dK []) npc
    have hpc : (upd H5 pc (.dK [])) pc = some (.dK []) := upd_same
    have eD6 := sC _ _ eD5
    have dv6 := dv5.up sC
    have du6 := du5.up sC
    have s06 := s05.trans sC
    generalize hH6 : upd H5 pc (.dK []) = H6 at sC hpc eD6 dv6 du6 s06 ⊢
    dsimp only [gName]
    -- the loop
    have hcat : ∀ R : It → Hp → Prop, (∀ (M : Addr) (H7 : Hp) (ws : List V), Same H6 H7 → H7 M = some (.lst ws) → DxAll K H7 ws (L ++ endOf c) → R (Itl K M) H7) →
        iList K (tOp rCat (tVar 2) (tIf (tTest (tOp rIs0 (tVar 3) (tC .non))) (tLst tNil) (tLst (tCons (tVar 3) tNil)))) [some (.str y), some (.ref p), some (.ref D), some u, none, none, some (.ref pc), none] H6 R := fun R r => by
      refine ⟨_, rfl, _, rfl, rfl, _, rfl, ?_⟩
      by_cases eu : u = .non
      · have e2 := (dx_nil du6).mpr eu
        subst e2
        rw [decide_eq_true eu]
        refine iteT ⟨Nat.zero_le _, fun e ne => ?_⟩
        have se := same_put (o := .lst []) ne
        refine ⟨D, e, vs, [], rfl, rfl, se _ _ eD6, upd_same, by simp; omega, fun M nM => ?_⟩
        have sM := same_put (o := .lst (vs ++ [])) nM
        exact ⟨M, rfl, ⟨_, SqL.of upd_same⟩, r M _ vs (se.trans sM) (by rw [upd_same, List.append_nil]) (by rw [show L ++ endOf .none = L from List.append_nil L]; exact dv6.up (se.trans sM))⟩
      · have e2 : c ≠ .none := fun z => eu ((dx_nil du6).mp z)
        rw [decide_eq_false eu]
        refine iteF ⟨_, rfl, by show 1 ≤ sizeLine; omega, fun e ne => ?_⟩
        have se := same_put (o := .lst [u]) ne
        refine ⟨D, e, vs, [u], rfl, rfl, se _ _ eD6, upd_same, by simp; omega, fun M nM => ?_⟩
        have sM := same_put (o := .lst (vs ++ [u])) nM
        exact ⟨M, rfl, ⟨_, SqL.of upd_same⟩, r M _ _ (se.trans sM) upd_same (by rw [endOf_some e2]; exact DxAll.append (dv6.up (se.trans sM)) (.cons (du6.up (se.trans sM)) .nil))⟩
    unfold L2.tSeq L2.tFor
    refine hcat _ fun M H7 ws s7 eM dM => ?_
    have cfLL : ∀ d, d ∈ L ++ endOf c → Cf d ∧ d.depth ≤ n + 1 := fun d hd => (List.mem_append.mp hd).elim (dpL d) (cc d)
    have lLL : (L ++ endOf c).length ≤ 91 := by
      rw [List.length_append]
      have : (endOf c).length ≤ 1 := by cases c <;> simp [endOf]
      omega
    have outs2 : ∀ {G : Hp}, But pc H7 G → ∀ G', (∀ b o, G b = some o → G' b = some o) → Same H G' := fun {G} bG G' h b o hb => h b o (bG b o (s7 b o (s06 b o hb)) (ne_of_none (s05 b o hb) npc))
    have outs : ∀ {G : Hp}, But pc H7 G → ∀ H', H' = G → Same H H' := fun {G} bG H' e => outs2 bG H' (fun b o h => by rw [e]; exact h)
    have lw := dM.length
    have npM : pc ≠ M := fun z => by
      have := s7 _ _ hpc
      rw [z, eM] at this
      cases this
    have szm : ∀ d, d ∈ L ++ endOf c → szAll (sidesOf d) ≤ 5000 := fun d hd => by
      rcases List.mem_append.mp hd with hd | hd
      · have ho : some d ∈ os := by rw [eos]; exact List.mem_map_of_mem hd
        obtain ⟨x, hx, ex⟩ := List.mem_map.mp ho
        exact pairT_sz ex (lens x hx)
      · unfold conclT at hc
        split at hc
        · cases hc
          cases hd
        · rw [endOf_some (cf_lay (pairT_cf hc)).2.2.2, List.mem_singleton] at hd
          subst hd
          exact pairT_sz hc (by omega)
    refine for_list (K := K) (a := M) (xs := ws) (fun i σ' G => ∃ (x1 x2 : Option V) (ms : List NK), σ' = [some (.str y), some (.ref p), some (.ref D), some u, x1, x2, some (.ref pc), none] ∧ But pc H7 G ∧ G pc = some (.dK (dictC ms)) ∧ Func ms ∧ ms.length ≤ i * 10000 ∧ ∀ q, q ∈ ms ↔ q ∈ rowsAll (sidesD ((L ++ endOf c).take i))) ⟨none, none, [], rfl, But.refl _ _, s7 _ _ hpc, fun q hq => (nomatch hq), Nat.zero_le _, fun q => by simp [sidesD, rowsAll]⟩ (fun i σ' G _ h => by
      obtain ⟨_, _, _, _, b, _⟩ := h
      exact SqL.of (b _ _ eM npM.symm)) ?_ ?_
    · rintro i x σ' G hi ⟨x1, x2, ms, rfl, bG, ePc, fn, lm, mem⟩
      have li : i < (L ++ endOf c).length := by rw [← lw]; exact (List.getElem?_eq_some_iff.mp hi).1
      have gd := List.getElem?_eq_getElem li
      obtain ⟨v, hv, dv⟩ := dM.get gd
      rw [hi] at hv
      cases hv
      have md := List.getElem_mem li
      obtain ⟨⟨a, b, eab, fa, fb⟩, dd⟩ := cfLL _ md
      have sm := szm _ md
      rw [eab] at dv dd sm
      obtain ⟨q0, v1, v2, rfl, hq0, d1, d2⟩ := dx_couple dv
      simp only [PyData.depth, PyData.depthAll] at dd
      simp only [sidesOf, szAll] at sm
      have e7 := s7 _ _ hpc
      have tG := tups_but bG e7
      have i91 : i * 10000 ≤ 910000 := by omega
      have er : rowsAll (sidesD ((L ++ endOf c).take (i + 1))) = rowsAll (sidesD ((L ++ endOf c).take i)) ++ (rowsD a ++ rowsD b) := by
        rw [sidesD_take gd, rowsAll_append, eab]
        simp [sidesOf, rowsAll]
      have sub : ∀ q, q ∈ rowsAll (sidesD ((L ++ endOf c).take (i + 1))) → q ∈ rowsAll (sidesD (L ++ endOf c)) := fun q hq => by
        have : sidesD (L ++ endOf c) = sidesD ((L ++ endOf c).take (i + 1)) ++ sidesD ((L ++ endOf c).drop (i + 1)) := by
          rw [sidesD, sidesD, sidesD, ← List.flatMap_append, List.take_append_drop]
        rw [this, rowsAll_append]
        exact List.mem_append_left _ hq
      have clash : ∀ (ms' : List NK) (r : List NK), (∀ q, q ∈ ms' → q ∈ rowsAll (sidesD ((L ++ endOf c).take (i + 1)))) → (∀ q, q ∈ r → q ∈ rowsD a ++ rowsD b) → ¬ Func (ms' ++ r) → dueP n ini last = none := fun ms' r h1 h2 h => by
        rw [dueE, if_neg]
        rintro ⟨_, F⟩
        refine h (F.sub fun q hq => sub q ?_)
        rcases List.mem_append.mp hq with hq | hq
        · exact h1 q hq
        · rw [er]
          exact List.mem_append_right _ (h2 q hq)
      refine ⟨q0, _, rfl, SqT.of (tG _ _ hq0), rfl, _, _, rfl, _, _, rfl, rfl, ?_⟩
      refine ⟨_, rfl, _, rfl, v1, pc, a, ms, rfl, Dx.ts tG _ _ (pure_formed _ fa) d1, fa, by omega, ePc, fn, by omega, fun b1 ms1 G1 bG1 e1 lm1 ct1 => ⟨_, rfl, ?_⟩⟩
      cases b1 with
      | false => exact iteT (iteT (bad (clash ms (rowsD a) (fun q hq => by rw [er]; exact List.mem_append_left _ ((mem q).mp hq)) (fun q hq => List.mem_append_left _ hq) (ct1.no rfl)) G1 (outs (bG.trans bG1) _ rfl)))
      | true =>
      have tG1 := tG.trans (tups_but bG1 ePc)
      refine iteF ⟨_, rfl, _, rfl, v2, pc, b, ms1, rfl, Dx.ts tG1 _ _ (pure_formed _ fb) d2, fb, by omega, e1, ct1.fn, by omega, fun b2 ms2 G2 bG2 e2 lm2 ct2 => ⟨_, rfl, ?_⟩⟩
      have m1 : ∀ q, q ∈ ms1 → q ∈ rowsAll (sidesD ((L ++ endOf c).take (i + 1))) := fun q hq => by
        rw [er]
        rcases ct1.sub q hq with h | h
        · exact List.mem_append_left _ ((mem q).mp h)
        · exact List.mem_append_right _ (List.mem_append_left _ h)
      cases b2 with
      | false => exact iteT (bad (clash ms1 (rowsD b) m1 (fun q hq => List.mem_append_right _ hq) (ct2.no rfl)) G2 (outs (bG.trans (bG1.trans bG2)) _ rfl))
      | true =>
      refine iteF ⟨some v1, some v2, ms2, rfl, bG.trans (bG1.trans bG2), e2, ct2.fn, by rw [Nat.add_mul]; omega, fun q => ⟨fun h => ?_, fun h => ?_⟩⟩
      · rcases ct2.sub q h with h | h
        · exact m1 q h
        · rw [er]
          exact List.mem_append_right _ (List.mem_append_right _ h)
      · rw [er] at h
        rcases List.mem_append.mp h with h | h
        · exact ct2.old q (ct1.old q ((mem q).mpr h))
        · rcases List.mem_append.mp h with h | h
          · exact ct2.old q (ct1.yes rfl q h)
          · exact ct2.yes rfl q h
    · rintro σ' G ⟨x1, x2, ms, rfl, bG, ePc, fn, lm, mem⟩
      rw [lw, List.take_length] at mem
      have F : Func (rowsAll (sidesD (L ++ endOf c))) := fn.sub fun q hq => (mem q).mpr hq
      have e7 := s7 _ _ hpc
      have tG := tups_but bG e7
      have e : dueP n ini last = some (.tuple [.tuple L, c]) := by rw [dueE, if_pos ⟨pw, F⟩]
      have eDG := bG _ _ (s7 _ _ eD6) (ne_of (s7 _ _ eD6) e7 (fun z => nomatch z))
      obtain ⟨_, _, _, puL⟩ := cfs_lay dpL
      have puc : pureD c = true := by
        by_cases ec : c = .none
        · rw [ec]; rfl
        · exact (cf_lay (cc c (by rw [endOf_some ec]; exact List.mem_singleton.mpr rfl)).1).2.2.1
      have t6G := (Tups.of s7).trans tG
      refine ⟨_, rfl, D, vs, rfl, .inl ⟨SqL.of eDG, fun t nt => ⟨_, rfl, by show 2 ≤ sizeLine; omega, fun f nf => ?_⟩⟩⟩
      have st := same_put (o := .tup vs) nt
      have sf := same_put (o := .tup [V.ref t, u]) nf
      have t6 := t6G.trans ((Tups.of st).trans (Tups.of sf))
      exact good _ e _ _ (outs2 bG _ (fun b o hb => sf b o (st b o hb))) (.tup upd_same (.cons (.tup (sf _ _ upd_same) (DxAll.ts t6 _ _ puL dv6)) (.cons (Dx.ts t6 _ _ puc du6) .nil)))
  refine ⟨_, rfl, os.map optD, rfl, .lst (SqL.of eD3) (DxAll.dp y2 dv3), y1, _, rfl, ?_⟩
  rw [none_in os fun o ho d e => (cf_lay (cfo o ho d e)).2.2.2]
  cases ea : allS os with
  | none =>
    refine iteT (iteT (bad ?_ H3 s0))
    unfold dueP
    cases conclT n last with
    | none => rfl
    | some c =>
      show ((allS os).bind _) = none
      rw [ea]
      rfl
  | some L =>
  have eos := allS_some ea
  have emap : os.map optD = L := by
    rw [eos, List.map_map]
    show L.map (fun d => d) = L
    simp
  rw [emap] at dv3 y1 y2 y3
  have cfL : ∀ d, d ∈ L → Cf d := fun d hd => cfo (some d) (by rw [eos]; exact List.mem_map_of_mem hd) d rfl
  have lL : L.length ≤ 90 := by
    have : os.length = L.length := by rw [eos, List.length_map]
    omega
  have lvL := dv3.length
  have dpL : ∀ d, d ∈ L → Cf d ∧ d.depth ≤ n + 1 := fun d hd => ⟨cfL d hd, by
    have ho : some d ∈ os := by rw [eos]; exact List.mem_map_of_mem hd
    obtain ⟨x, hx, ex⟩ := List.mem_map.mp ho
    exact pairT_depth ex (cs x hx)⟩
  obtain ⟨z1, z2, z3⟩ := dx_zip dv3
  generalize hzs : vs.zip L = zs at z1 z2 z3
  clear hzs
  have mS : ∀ d, d ∈ (zs.mergeSort (PySem.W.dataLe false Prod.snd)).map Prod.snd → d ∈ L := fun d hd => by
    rw [← z2]
    exact ((List.mergeSort_perm zs _).map Prod.snd).mem_iff.mp hd
  obtain ⟨l1, l2, l3, l4⟩ := cfs_lay dpL
  obtain ⟨k1, k2, k3, k4⟩ := cfs_lay (L := (zs.mergeSort (PySem.W.dataLe false Prod.snd)).map Prod.snd) fun d hd => dpL d (mS d hd)
  have hs : ∀ (Qb : Bool → Hp → Prop), (∀ b H', Same H3 H' → (b = true ↔ (zs.mergeSort (PySem.W.dataLe false Prod.snd)).map Prod.snd ≠ L) → Qb b H') →
      tTest (tOp (rNeF K) (tVar 2) (tCB (rSortF K) (tCons (tVar 2) tNil))) [some (.str y), some (.ref p), some (.ref D), some u, none, none, none, none] H3 Qb := fun Qb qb => by
    refine ⟨_, rfl, _, rfl, D, zs, rfl, by rw [z1]; exact SqL.of eD3, fun q hq => Dx.dp ?_ (z3 q hq), ?_, .inl ?_, ?_, ?_, fun r nr => ?_⟩
    · have : q.2 ∈ L := by rw [← z2]; exact List.mem_map_of_mem hq
      exact (cf_lay (cfL _ this)).2.1
    · intro d hd d' hd'
      rw [z2] at hd hd'
      exact cf_alike (cfL d hd) (cfL d' hd')
    · intro d hd
      rw [z2] at hd
      obtain ⟨a, b, rfl, _⟩ := cfL d hd
      exact ⟨_, _, rfl⟩
    · have : zs.length = L.length := by rw [← z2, List.length_map]
      omega
    · intro q hq
      have : q.2 ∈ L := by rw [← z2]; exact List.mem_map_of_mem hq
      have := (dpL _ this).2
      omega
    · have sr := same_put (o := .lst ((zs.mergeSort (PySem.W.dataLe false Prod.snd)).map Prod.fst)) nr
      have dS := zip_dxx (K := K) (H := H3) (zs := zs.mergeSort (PySem.W.dataLe false Prod.snd)) fun q hq => z3 q ((List.mergeSort_perm zs _).mem_iff.mp hq)
      refine ⟨.list L, .list ((zs.mergeSort (PySem.W.dataLe false Prod.snd)).map Prod.snd), .lst (SqL.of (sr _ _ eD3)) (DxAll.dp l2 (dv3.up sr)), .lst (SqL.of upd_same) (DxAll.dp k2 (dS.up sr)), l1, k1, by simp only [PyData.depth]; omega, _, rfl, qb _ _ sr ?_⟩
      have := cfs_eqv cfL (fun d hd => cfL d (mS d hd))
      show (!PyData.eqvAll L _) = true ↔ _
      rw [Bool.not_eq_true', ← Bool.not_eq_true, this]
      exact ⟨fun h z => h z.symm, fun h z => h z.symm⟩
  have srt : ∀ c, conclT n last = some c → (dueP n ini last = if L.Pairwise ltR ∧ Func (rowsAll (sidesD (L ++ endOf c))) then some (.tuple [.tuple L, c]) else none) := fun c hc => by
    unfold dueP
    rw [hc]
    show ((allS os).bind _) = _
    rw [ea]
    show (if _ then _ else _) = _
    simp only [long, true_and]
  have srt2 : (zs.mergeSort (PySem.W.dataLe false Prod.snd)).map Prod.snd ≠ L → ¬ L.Pairwise ltR := fun h p => by
    have := (due_sorted (zs := zs) (by rw [z2]; exact cfL)).mpr (by rw [z2]; exact p)
    rw [z2] at this
    exact h this.1
  have srt3 : (zs.mergeSort (PySem.W.dataLe false Prod.snd)).map Prod.snd = L → (adj L).any id = false → L.Pairwise ltR := fun h a => by
    have := (due_sorted (zs := zs) (by rw [z2]; exact cfL)).mp (by rw [z2]; exact ⟨h, a⟩)
    rwa [z2] at this
  rw [show decide (some L = none) = false by simp]
  refine iteF ?_
  by_cases en : last = "never"
  · rw [if_pos en] at du
    cases du
    have hc : conclT n last = some .none := if_pos en
    refine ⟨_, rfl, rfl, _, rfl, iteT ⟨_, rfl, 1, rfl, p, _, -1, .str last, rfl, rfl, SqL.of hp3, al, rfl, _, rfl, ?_⟩⟩
    rw [show (!decide (V.str last = V.str "never")) = false by rw [en]; simp]
    refine iteF (hs _ fun b H4 s4 hb => ?_)
    cases b with
    | true => exact iteT (bad (by rw [srt _ hc, if_neg fun z => srt2 (hb.mp rfl) z.1]) H4 (s0.trans s4))
    | false => exact iteF ⟨.none, L, rfl, s4, hc, rfl, .non, srt3 (Classical.byContradiction fun z => by have := hb.mpr z; cases this)⟩
  · rw [if_neg en] at du
    cases ep2 : pairT n last with
    | none =>
      rw [ep2] at du
      cases du
      refine ⟨_, rfl, rfl, _, rfl, iteT ⟨_, rfl, 1, rfl, p, _, -1, .str last, rfl, rfl, SqL.of hp3, al, rfl, _, rfl, ?_⟩⟩
      rw [show (!decide (V.str last = V.str "never")) = true by simp [en]]
      refine iteT (iteT (bad ?_ H3 s0))
      unfold dueP
      rw [show conclT n last = none from (if_neg en).trans ep2]
      rfl
    | some c =>
      rw [ep2] at du
      have du : Dx K H3 u c := du
      have hc : conclT n last = some c := (if_neg en).trans ep2
      refine ⟨_, rfl, rfl, _, rfl, ?_⟩
      rw [decide_eq_false (fun z => (cf_lay (pairT_cf ep2)).2.2.2 ((dx_nil du).mpr z))]
      refine iteF (iteF (hs _ fun b H4 s4 hb => ?_))
      cases b with
      | true => exact iteT (bad (by rw [srt _ hc, if_neg fun z => srt2 (hb.mp rfl) z.1]) H4 (s0.trans s4))
      | false => exact iteF ⟨c, L, rfl, s4, hc, rfl, du.up s4, srt3 (Classical.byContradiction fun z => by have := hb.mpr z; cases this)⟩
end
end K13
/-! What a reader gives, shown. -/
namespace K13
open PySem PySem.Spec PyProof.Rows L2 Kx
theorem tup_len (ds : List PyData) : (PyData.tuple ds).shown.length ≤ piled (PyData.shownAll ds) + 3 := by
  simp only [PyData.shown]
  generalize PyData.shownAll ds = ts
  have last : ((if ts.length == 1 then ",)" else ")" : String) : Str).length ≤ 2 := by split <;> decide
  have all : (tupleText ts).length = 1 + (Str.join ", " ts).length + ((if ts.length == 1 then ",)" else ")" : String) : Str).length := by
    unfold tupleText
    rw [strLen_append, strLen_append]
    rfl
  rw [all]
  cases ts with
  | nil =>
    rw [show (Str.join ", " []).length = 0 from rfl]
    omega
  | cons t r =>
    have := join_length_add (t :: r) (by simp)
    omega
mutual
def nmD : PyData → Bool
  | .tuple ds => nmAll ds
  | .none => true
  | .str x => isNm x
  | _ => false
def nmAll : List PyData → Bool
  | [] => true
  | d :: ds => nmD d && nmAll ds
end
mutual
theorem shown_nm : ∀ d : PyData, nmD d = true → d.shown.length + 2 ≤ 90 * szD d ∧ d.showable = true ∧ d.hasDict = false
  | .none, _ => ⟨by decide, rfl, rfl⟩
  | .str x, h => by
    have n := nm_ok (x := x) h
    refine ⟨?_, rfl, rfl⟩
    simp only [PyData.shown, szD]
    omega
  | .tuple ds, h => by
    obtain ⟨i1, i2, i3⟩ := shown_nms ds (by simpa [nmD] using h)
    have t := tup_len ds
    refine ⟨by simp only [szD]; omega, by simpa [PyData.showable] using i2, by simpa [PyData.hasDict] using i3⟩
  | .bool _, h => by cases h
  | .int _, h => by cases h
  | .list _, h => by cases h
  | .dict _, h => by cases h
theorem shown_nms : ∀ ds : List PyData, nmAll ds = true → piled (PyData.shownAll ds) ≤ 90 * szAll ds ∧ PyData.showableAll ds = true ∧ PyData.hasDictAll ds = false
  | [], _ => ⟨by simp [PyData.shownAll, piled], rfl, rfl⟩
  | d :: ds, h => by
    rw [nmAll, Bool.and_eq_true] at h
    obtain ⟨a1, a2, a3⟩ := shown_nm d h.1
    obtain ⟨b1, b2, b3⟩ := shown_nms ds h.2
    refine ⟨?_, by simp [PyData.showableAll, a2, b2], by simp [PyData.hasDictAll, a3, b3]⟩
    rw [PyData.shownAll, piled_cons, szAll]
    omega
end
mutual
theorem nm_formed : ∀ d : PyData, formedD d = true → nmD d = true
  | .none, h => by cases h
  | .bool _, h => by cases h
  | .int _, h => by cases h
  | .str _, h => by cases h
  | .list _, h => by cases h
  | .dict _, h => by cases h
  | .tuple [], h => by cases h
  | .tuple (d :: ds), h => by
    simp only [formedD, Bool.and_eq_true] at h
    cases d with
    | str x =>
      have : isNm x = true := h.1.2
      simp [nmD, nmAll, this, nms_formed ds h.2]
    | _ => cases h.1.2
theorem nms_formed : ∀ ds : List PyData, formedAll ds = true → nmAll ds = true
  | [], _ => rfl
  | d :: ds, h => by
    rw [formedAll, Bool.and_eq_true] at h
    rw [nmAll, nm_formed d h.1, nms_formed ds h.2]
    rfl
end
theorem cf_nm {d : PyData} (h : Cf d) : nmD d = true := by
  obtain ⟨a, b, rfl, fa, fb⟩ := h
  simp [nmD, nmAll, nm_formed a fa, nm_formed b fb]
theorem nm_of : ∀ {ds : List PyData}, (∀ d, d ∈ ds → nmD d = true) → nmAll ds = true
  | [], _ => rfl
  | d :: ds, h => by
    rw [nmAll, h d List.mem_cons_self, nm_of fun e he => h e (List.mem_cons_of_mem _ he)]
    rfl
/-- what a reader gives can be shown -/
structure Shw (d : PyData) : Prop where
  sw : d.showable = true
  hd : d.hasDict = false
  dp : d.depth ≤ 190
  ln : d.shown.length + 64 ≤ sizeLine
theorem parse_shw : Shw (.str "parse") := ⟨rfl, rfl, by decide, by decide +kernel⟩
theorem read_shw {z : Str} (h : SB z) : Shw (readD (.str z)) := by
  obtain ⟨ini, last, ep⟩ := parts_ex z
  have psz := parts_sz ep h.l h.m
  have lens : ∀ w, w ∈ wordsP ini → w.length ≤ 2000 := fun w hw => by
    have := wordsP_sum ini
    have := sum_mem (f := fun x : Str => x.length) hw
    omega
  have c40s := cnt_sum 40 " => " (Txt.split z " => ")
  rw [StrLaws.join_split, ep, List.map_append, List.sum_append] at c40s
  simp only [List.map_cons, List.map_nil, List.sum_cons, List.sum_nil] at c40s
  have ho := h.o
  have cl : cnt 40 last < 100 := by omega
  have cs : ∀ w, w ∈ wordsP ini → cnt 40 w < 100 := fun w hw => by
    have := wordsP_cnt 40 ini
    have := sum_mem (f := cnt 40) hw
    omega
  have rd : readD (.str z) = (dueP 100 ini last).getD (.str "parse") := by
    rw [due_eq (by omega) lens cl cs]
    show (factP (Txt.split z " => ")).getD _ = _
    rw [ep]
  rw [rd]
  cases e : dueP 100 ini last with
  | none => exact parse_shw
  | some F =>
    have ef : factP (ini ++ [last]) = some F := by rw [← due_eq (by omega) lens cl cs]; exact e
    unfold dueP at e
    obtain ⟨c, hc, e⟩ := Option.bind_eq_some_iff.mp e
    obtain ⟨ds, hds, e⟩ := Option.bind_eq_some_iff.mp e
    split at e
    · cases e
      rw [factP_snoc] at ef
      obtain ⟨c', hc', ef⟩ := Option.bind_eq_some_iff.mp ef
      obtain ⟨ds', hds', ef⟩ := Option.bind_eq_some_iff.mp ef
      split at ef
      · have ee := Option.some.inj ef
        simp only [PyData.tuple.injEq, List.cons.injEq, and_true] at ee
        obtain ⟨e1, e2⟩ := ee
        subst e1 e2
        have fz := fact_sz ep h.l h.m hc' hds'
        have hm := allS_iff.mp hds
        have dsc : ∀ d, d ∈ ds' → Cf d ∧ d.depth ≤ 101 := fun d hd => by
          obtain ⟨w, hw, ew⟩ := map_at hm d hd
          exact ⟨pairT_cf ew, pairT_depth ew (cs w hw)⟩
        have cc : nmD c' = true ∧ c'.depth ≤ 101 := by
          unfold conclT at hc
          split at hc
          · cases hc
            exact ⟨rfl, by decide⟩
          · exact ⟨cf_nm (pairT_cf hc), pairT_depth hc cl⟩
        have nm : nmD (.tuple [.tuple ds', c']) = true := by
          simp [nmD, nmAll, nm_of fun d hd => cf_nm (dsc d hd).1, cc.1]
        obtain ⟨s1, s2, s3⟩ := shown_nm _ nm
        obtain ⟨_, _, dd, _⟩ := cfs_lay dsc
        refine ⟨s2, s3, ?_, ?_⟩
        · have := cc.2
          show PyData.depth (.tuple [.tuple ds', c']) ≤ 190
          simp only [PyData.depth, PyData.depthAll]
          omega
        · have := fz.2.1
          have sz : 1000000 ≤ sizeLine := by decide
          show (PyData.tuple [.tuple ds', c']).shown.length + 64 ≤ sizeLine
          omega
      · cases ef
    · cases e
/-- known facts -/
theorem known {L : List PyData} {c : PyData} (rs : List NK) (hp : ∀ z, z ∈ L ++ endOf c → ∃ a b, z = .tuple [a, b] ∧ formedD a = true ∧ formedD b = true ∧ (∀ r, r ∈ rowsD a → r ∈ rs) ∧ (∀ r, r ∈ rowsD b → r ∈ rs) ∧ a.depth ≤ 3 ∧ b.depth ≤ 3 ∧ ltR a b) (srt : L.Pairwise ltR) (l3 : L.length ≤ 3) (F : Func rs) (hc : c = .none ∨ c ∈ endOf c) :
    toldF (.str (ftS L c)) = some (.tuple [.tuple L, c]) := by
  have pr : ∀ z, z ∈ L ++ endOf c → Pr rs 3 z := fun z hz => by
    obtain ⟨a, b, e, f1, f2, r1, r2, d1, d2, lt⟩ := hp z hz
    exact ⟨a, b, e, ⟨f1, r1, d1⟩, ⟨f2, r2, d2⟩, lt⟩
  have fa : Fa rs 3 3 L c := ⟨fun z hz => pr z (List.mem_append_left _ hz), srt, hc.imp id fun h => pr c (List.mem_append_right _ h), l3⟩
  exact read_back fa (by decide) F
def cA (x : Str) : PyData := .tuple [.str x]
theorem known1 : toldF (.str "never") = some (.tuple [.tuple [], .none]) := known [] (fun z hz => by cases hz) .nil (by decide) (by decide) (.inl rfl)
theorem known_pair {x y : Str} (hx : isNm x = true) (hy : isNm y = true) (lt : ltR (cA x) (cA y)) : ∀ z, z ∈ [PyData.tuple [cA x, cA y]] → ∃ a b, z = .tuple [a, b] ∧ formedD a = true ∧ formedD b = true ∧ (∀ r, r ∈ rowsD a → r ∈ [(x, 0), (y, 0)]) ∧ (∀ r, r ∈ rowsD b → r ∈ [(x, 0), (y, 0)]) ∧ a.depth ≤ 3 ∧ b.depth ≤ 3 ∧ ltR a b := fun z hz => by
  refine ⟨cA x, cA y, List.mem_singleton.mp hz, by simp [cA, formedD, formedAll, nameD, hx], by simp [cA, formedD, formedAll, nameD, hy], fun r hr => ?_, fun r hr => ?_, by simp [cA, PyData.depth, PyData.depthAll], by simp [cA, PyData.depth, PyData.depthAll], lt⟩
  · simp [cA, rowsD, rowsAll, headD] at hr
    simp [hr]
  · simp [cA, rowsD, rowsAll, headD] at hr
    simp [hr]
theorem bad_strs : (["", "never ", "a=b=c", "a=b => ", " => a=b", "a=b & => never", "a=b =>never", "a=b  => never", "f(a)=f(a,a)", "a=a", "b=a", "f()=g", "f(a,)=g", "abcdefghi=b"] : List Str).all (fun x => (toldF (.str x)).isNone) = true := by decide +kernel
end K13
/-! t[::-1] of a tuple. -/
namespace Kx
open PySem PySem.Spec PyProof.Rows L2 HT
section
variable {prog : Program} {w : World} {A : Around} {E : Value → Shared → Prop} {s : Shared}
theorem revt_adjust (n : Nat) : Builtin.Slice.sliceAdjust none none (-1) (n : Int) = ((n : Int) - 1, -1) := by
  have neg : (-1 : Int) < 0 := by decide
  unfold Builtin.Slice.sliceAdjust
  simp only [neg, if_true]
theorem revt_places (n : Nat) : Builtin.Slice.slicePlaces ((n : Int) - 1) (-1) (-1) = n := by
  unfold Builtin.Slice.slicePlaces
  have no : ¬ ((-1 : Int) > 0) := by decide
  simp only [no, if_false]
  rw [show -(-1 : Int) = 1 from rfl, Int.ediv_one]
  split <;> omega
theorem fm_congr {α β : Type} {f g : α → Option β} : ∀ {l : List α}, (∀ x, x ∈ l → f x = g x) → l.filterMap f = l.filterMap g
  | [], _ => rfl
  | x :: l, h => by
    rw [List.filterMap_cons, List.filterMap_cons, h x List.mem_cons_self, fm_congr fun y hy => h y (List.mem_cons_of_mem _ hy)]
theorem revt_pick (xs : List Value) : ((List.range xs.length).filterMap fun (m : Nat) => xs.toArray[((xs.length : Int) - 1 + (m : Int) * -1).toNat]?) = xs.reverse := by
  have e : (List.range xs.length).filterMap (fun (m : Nat) => xs.toArray[((xs.length : Int) - 1 + (m : Int) * -1).toNat]?) = ((List.range xs.length).map fun k => xs.length - 1 - k).filterMap fun m => xs.toArray[m]? := by
    rw [List.filterMap_map]
    refine fm_congr fun m hm => ?_
    have := List.mem_range.mp hm
    rw [show ((xs.length : Int) - 1 + (m : Int) * -1).toNat = xs.length - 1 - m by omega]
    rfl
  rw [e, PySem.W.krv_range, List.filterMap_reverse]
  have := PySem.W.krv_all xs.toArray
  rw [List.size_toArray] at this
  rw [this]
theorem revt_applied {sl : Addr} {vl vu vs : Value} {n : Nat} {Q : Int × Int × Nat → Shared → Prop} (hs : s.heap.IsSliceOf sl vl vu vs) (pl : IsPart vl none) (pu : IsPart vu none) (ps : IsPart vs (some (-1)))
    (h : Q ((n : Int) - 1, -1, n) s) : wpAny (model prog w) A (Builtin.Slice.sliceApplied (.ref sl) (pure (n : Int))) Q E s := by
  obtain ⟨ob, h1, h2, h3⟩ := id hs
  unfold Builtin.Slice.sliceApplied Builtin.Slice.sliceFields
  refine wpAny_bind (wpAny_bind (wpAny_field h1 h3 (x := vl) rfl (wpAny_bind (wpAny_field h1 h3 (x := vu) rfl (wpAny_bind (wpAny_field h1 h3 (x := vs) rfl (wpAny_pure ?_)))))))
  refine wpAny_bind (slicePart_ ps ?_)
  show wpAny _ _ (if ((-1 : Int) == 0) = true then _ else _) _ _ s
  rw [if_neg (by decide)]
  refine wpAny_bind (slicePart_ pl (wpAny_bind (slicePart_ pu (wpAny_bind (wpAny_pure ?_)))))
  show wpAny _ _ (match Builtin.Slice.sliceAdjust none none (-1) (n : Int) with | (lo, hi) => pure (lo, (-1 : Int), Builtin.Slice.slicePlaces lo hi (-1))) _ _ s
  rw [revt_adjust n]
  show wpAny _ _ (pure ((n : Int) - 1, (-1 : Int), Builtin.Slice.slicePlaces ((n : Int) - 1) (-1) (-1))) _ _ s
  rw [revt_places n]
  exact wpAny_pure h
theorem getItem_revt {t sl : Addr} {xs : List Value} {vl vu vs : Value} {Q : Value → Shared → Prop} (ht : IsTup s.heap t xs.toArray) (hz : xs.length ≤ sizeLine) (hs : s.heap.IsSliceOf sl vl vu vs) (pl : IsPart vl none) (pu : IsPart vu none) (ps : IsPart vs (some (-1)))
    (h : Q (.ref s.heap.objs.size) { s with heap := s.heap.push { cls := .type "tuple", data := .seq xs.reverse.toArray } }) : wpAny (model prog w) A (getItem (.ref t) (.ref sl)) Q E s := by
  have few : sizeOk (.seq xs.reverse.toArray) := by
    show xs.reverse.toArray.size ≤ sizeLine
    rw [List.size_toArray, List.length_reverse]
    exact hz
  obtain ⟨ob, ho, hc, hd⟩ := id hs
  have isS : s.TypeIs (.ref sl) "slice" := ⟨ob, ho, hc⟩
  unfold getItem
  try with_reducible refine wpAny_holding ?_
  first | refine wpAny_bind (wpAny_pure ?_) | skip
  refine wpAny_bind (wpAny_sequenceKey ht.typeIs (by decide) ?_)
  refine wpAny_bind (wpAny_callSpecial?_slot (name := Str.ofString "__getitem__") ht.typeIs PyProof.Rows.slot_tuple_getitem
    (wpAny_call_entry PyProof.Rows.slot_tuple_getitem ht.typeIs entry_tuple_getitem ?_ (args_tuple_getitem _ _)))
  show wpAny _ _ (Builtin.Tuple.tupleItemsOf (.ref t) >>= _) _ _ s
  refine wpAny_bind (tupleItemsOf_ ht ?_)
  refine wpAny_bind (wpAny_typeOf isS ?_)
  rw [if_pos (by decide)]
  have sz : xs.toArray.size = xs.length := List.size_toArray ..
  refine wpAny_bind (revt_applied (n := xs.toArray.size) hs pl pu ps ?_)
  rw [sz]
  have no : ¬ ((((xs.length : Int) - 1) == 0 && (-1 : Int) == 1 && xs.length == xs.length) = true) := by simp
  show wpAny _ _ (if (((xs.length : Int) - 1) == 0 && (-1 : Int) == 1 && xs.length == xs.length) = true then _ else _) _ _ s
  rw [if_neg no, revt_pick]
  first
    | exact wpAny_bind (m := Builtin.Tuple.tupleExact _) (wpAny_newObj_type (wpAny_pure ⟨_, rfl, wpAny_pure h⟩) few)
    | exact wpAny_bind (m := Builtin.Tuple.tupleExact _) (wpAny_newObj_type (wpAny_bind (wpAny_pure (wpAny_pure ⟨_, rfl, wpAny_pure h⟩))) few)
    | exact wpAny_bind (wpAny_bind (m := Builtin.Tuple.tupleExact _) (wpAny_newObj_type (wpAny_pure (wpAny_pure ⟨_, rfl, wpAny_pure h⟩)) few))
    | exact wpAny_bind (wpAny_bind (m := Builtin.Tuple.tupleExact _) (wpAny_newObj_type (wpAny_pure ⟨_, rfl, wpAny_pure h⟩) few))
end
/-- t[::-1] -/
def tRevT (K : PySem.W.Frag) (te : TE) : TE := fun σ H Q => te σ H fun x H1 => ∃ a xs, x = .ref a ∧ SqT K H1 a xs ∧ ∀ p, H1 p = none → Q (.ref p) (upd H1 p (.tup xs.reverse))
section
variable {X : Cx}
theorem pe_revT {e : Expr} {te : TE} {k : Nat} {p1 p2 p3 pos : Pos} (he : PE X e te) : PE X (.Subscript e (.Slice none none (some (.UnaryOp .USub (.Constant (.int 1) k p1) p2)) p3) pos) (tRevT X.K te) := by
  refine ⟨fun pins s σ H Q I h => ?_⟩
  refine Subscript_ (thn (he.run pins s σ H _ I h) fun v s1 ⟨x, H1, I1, r1, q1⟩ => ?_)
  obtain ⟨a, xs, ex, hx, q⟩ := q1
  subst ex
  cases r1
  have hst : PO X (some (.UnaryOp .USub (.Constant (.int 1) k p1) p2)) (tPart (tUn (rU fun i => .int (-i)) (tC (.int 1)))) := po_some (pe_un un_neg pe_int)
  refine wpAny_Slice (thn (po_none.run pins s1 σ H1 (fun o G => o = none ∧ G = H1) I1 ⟨rfl, rfl⟩) fun vl s2 ⟨l, H2, I2, pl, el, e2⟩ => ?_)
  subst el e2
  refine thn (po_none.run pins s2 σ H2 (fun o G => o = none ∧ G = H2) I2 ⟨rfl, rfl⟩) fun vu s3 ⟨u, H3, I3, pu, eu, e3⟩ => ?_
  subst eu e3
  refine thn (hst.run pins s3 σ H3 (fun o G => o = some (-1) ∧ G = H3) I3 ⟨1, rfl, -1, rfl, rfl, rfl⟩) fun vs s4 ⟨o, H4, I4, ps, eo, e4⟩ => ?_
  subst eo e4
  have I5 : Inv X pins σ H4 { s4 with heap := s4.heap.push { cls := .type "slice", data := .fields #[vl, vu, vs] } } := I4.kept (t' := s4.toks) fun b ob q => Heap.get?_push_of_some _ q
  obtain ⟨its, r, ht, hz⟩ := I5.tuple hx
  have hlen := r.length
  show wpAny (model X.prog X.w) X.A (subscriptTail e (.Slice none none (some (.UnaryOp .USub (.Constant (.int 1) k p1) p2)) p3) (.ref a) (.ref s4.heap.objs.size)) (EP X pins σ Q) X.xe { s4 with heap := s4.heap.push { cls := .type "slice", data := .fields #[vl, vu, vs] } }
  refine tail_any (ops := [.ref a, .ref s4.heap.objs.size]) ht.typeIs (PyProof.Rows.slot_tuple_getitem.lookup) ?_ (by with_unfolding_all rfl)
  refine getItem_revt ht (by rw [← hlen]; exact hz) (Heap.IsSliceOf.new _ vl vu vs) pl pu ps ?_
  refine ⟨.ref _, _, I5.laid (t' := s4.toks) (o := .tup xs.reverse) (fun b ob q => Heap.get?_push_of_some _ q) (Nat.le_refl _) ?_, rfl, q _ (I5.hok.fresh (Nat.le_refl _))⟩
  exact ⟨by rw [List.length_reverse]; exact hz, _, r.reverse, IsTup.new _ _⟩
end
end Kx
/-! Displays over known data. -/
namespace Kx
open PySem PySem.Spec PyProof.Rows L2
/-- te makes d, from the heap H0 on -/
def MkH (K : PySem.W.Frag) (σ : L2.St) (H0 : Hp) (te : TE) (d : PyData) : Prop := ∀ (H : Hp) (Q : VK), Same H0 H → (∀ x H', Same H H' → Dx K H' x d → Q x H') → te σ H Q
def MkHs (K : PySem.W.Frag) (σ : L2.St) (H0 : Hp) (ta : TA) (ds : List PyData) : Prop := ∀ (H : Hp) (Q : List V → Hp → Prop), Same H0 H → (∀ xs H', Same H H' → DxAll K H' xs ds → Q xs H') → ta σ H Q
theorem le100 {n : Nat} (h : Nat.ble n 100 = true) : n ≤ 100 := Nat.le_of_ble_eq_true h
abbrev rLst1 (K : PySem.W.Frag) : List V → Hp → VK → Prop := fun vs H Q => ∃ a xs, vs = [V.ref a] ∧ (SqL K H a xs ∨ SqT K H a xs) ∧ ∀ l, H l = none → Q (.ref l) (upd H l (.lst xs))
section
variable {K : PySem.W.Frag} {σ : L2.St} {H0 : Hp} {te t1 t2 t3 : TE} {ta : TA} {d e c : PyData} {ds es : List PyData} {C : Addr} {E : XK}
theorem MkH.up {H1 : Hp} (h : MkH K σ H0 te d) (s : Same H0 H1) : MkH K σ H1 te d := fun H Q s' q => h H Q (s.trans s') q
theorem mh_var {i : Nat} {x : V} (h : σ[i]? = some (some x)) (dx : Dx K H0 x d) : MkH K σ H0 (tVar i) d := fun H Q s q => ⟨_, h, q _ H (Same.refl H) (dx.up s)⟩
theorem mh_str (x : Str) : MkH K σ H0 (tC (.str x)) (.str x) := fun H Q _ q => q _ H (Same.refl H) (.str x)
theorem mh_non : MkH K σ H0 (tC .non) .none := fun H Q _ q => q _ H (Same.refl H) .non
theorem mh_nil : MkHs K σ H0 tNil [] := fun H Q _ q => q _ H (Same.refl H) .nil
theorem mh_cons (h1 : MkH K σ H0 te d) (h2 : MkHs K σ H0 ta ds) : MkHs K σ H0 (tCons te ta) (d :: ds) := fun H Q s q =>
  h1 H _ s fun x H1 s1 d1 => h2 H1 _ (s.trans s1) fun xs H2 s2 d2 => q _ H2 (s1.trans s2) (.cons (d1.up s2) d2)
theorem mh_tup (h : MkHs K σ H0 ta ds) (few : ds.length ≤ 100) : MkH K σ H0 (tTup ta) (.tuple ds) := fun H Q s q =>
  h H _ s fun xs H1 s1 d1 => ⟨by rw [d1.length]; exact Nat.le_of_lt (small1000 (by omega)), fun p np => q _ _ (s1.trans (same_put np)) (.tup upd_same (d1.up (same_put np)))⟩
theorem mh_lst (h : MkHs K σ H0 ta ds) (few : ds.length ≤ 100) : MkH K σ H0 (tLst ta) (.list ds) := fun H Q s q =>
  h H _ s fun xs H1 s1 d1 => ⟨by rw [d1.length]; exact Nat.le_of_lt (small1000 (by omega)), fun p np => q _ _ (s1.trans (same_put np)) (.lst upd_same (d1.up (same_put np)))⟩
/-- an item of a tuple kept -/
theorem mh_ix {i j : Nat} {x : V} {d : PyData} {ds : List PyData} (h : σ[i]? = some (some x)) (dx : Dx K H0 x (.tuple ds)) (hd : ds[j]? = some d) : MkH K σ H0 (tOp (rIxT K) (tVar i) (tC (.int (j : Int)))) d := fun H Q s q => by
  cases dx.up s with
  | @tup a xs _ ha hs =>
  obtain ⟨v, hv, dv⟩ := hs.get hd
  exact ⟨_, h, a, xs, (j : Int), v, rfl, rfl, SqT.of ha, atI_nat hv, q v H (Same.refl H) dv⟩
/-- list(t) -/
theorem mh_list (h : MkH K σ H0 te (.tuple ds)) : MkH K σ H0 (tCB (rLst1 K) (tCons te tNil)) (.list ds) := fun H Q s q =>
  h H _ s fun x H1 s1 dx => by
    cases dx with
    | @tup a xs _ ha hs =>
    exact ⟨a, xs, rfl, .inr (SqT.of ha), fun l nl => q _ _ (s1.trans (same_put nl)) (.lst upd_same (hs.up (same_put nl)))⟩
/-- t + u -/
theorem mh_cat (h1 : MkH K σ H0 t1 (.tuple ds)) (h2 : MkH K σ H0 t2 (.tuple es)) (few : ds.length + es.length ≤ 1000) : MkH K σ H0 (tOp (rCatA K) t1 t2) (.tuple (ds ++ es)) := fun H Q s q =>
  h1 H _ s fun x H1 s1 dx => h2 H1 _ (s.trans s1) fun y H2 s2 dy => by
    cases dx.up s2 with
    | @tup a xs _ ha hs =>
    cases dy with
    | @tup b ys _ hb ht =>
    have l1 := hs.length
    have l2 := ht.length
    refine ⟨a, b, xs, ys, rfl, rfl, SqT.of ha, SqT.of hb, Nat.le_of_lt (small1000 (by omega)), fun e => ?_, fun _ e => ?_, fun _ _ p np => ?_⟩
    · subst e
      cases hs
      exact q _ _ (s1.trans s2) (.tup hb ht)
    · subst e
      cases ht
      rw [List.append_nil] at q
      exact q _ _ (s1.trans s2) (.tup ha hs)
    · exact q _ _ (s1.trans (s2.trans (same_put np))) (.tup upd_same ((hs.append ht).up (same_put np)))
theorem six_last {n : Nat} (h : 0 < n) : HT.sIx n 0 (some (-1)) = n - 1 := by
  show (if (-1 : Int) < 0 then ((-1 : Int) + (n : Int)).toNat else min (-1 : Int).toNat n) = n - 1
  rw [if_pos (by decide)]
  omega
/-- t[-1:] -/
theorem mh_last (h1 : MkH K σ H0 te (.tuple (ds ++ [d]))) : MkH K σ H0 (L2.tSl (rSlA K) te (tPart (tUn (rU fun i => V.int (-i)) (tC (.int 1)))) tNoPart) (.tuple [d]) := fun H Q s q =>
  h1 H _ s fun x H1 s1 dx => ⟨1, rfl, -1, rfl, by
    dsimp only [tNoPart]
    cases dx with
    | @tup a xs _ ha hs =>
    have l := hs.length
    rw [List.length_append, List.length_singleton] at l
    have hx := six_last (n := xs.length) (by omega)
    refine ⟨a, xs, rfl, SqT.of ha, fun z => ?_, fun _ p np => ?_⟩
    · rw [hx] at z
      have : ds = [] := List.eq_nil_of_length_eq_zero (by omega)
      subst this
      exact q _ _ s1 (.tup ha hs)
    · have e : cutV xs (some (-1)) none = xs.drop ds.length := by
        unfold cutV
        rw [hx, HT.sIx_none, List.take_of_length_le (by rw [List.length_drop]; omega)]
        congr 1
        omega
      rw [e]
      have hd := hs.drop ds.length
      rw [List.drop_left] at hd
      exact q _ _ (s1.trans (same_put np)) (.tup upd_same (hd.up (same_put np)))⟩
theorem DxAll.reverse' {H : Hp} : ∀ {xs : List V} {ds : List PyData}, DxAll K H xs ds → DxAll K H xs.reverse ds.reverse
  | _, _, .nil => .nil
  | _, _, .cons a b => by
    rw [List.reverse_cons, List.reverse_cons]
    exact DxAll.append (DxAll.reverse' b) (.cons a .nil)
/-- t[::-1] -/
theorem mh_rev (h1 : MkH K σ H0 te (.tuple ds)) : MkH K σ H0 (tRevT K te) (.tuple ds.reverse) := fun H Q s q =>
  h1 H _ s fun x H1 s1 dx => by
    cases dx with
    | @tup a xs _ ha hs =>
    exact ⟨a, xs, rfl, SqT.of ha, fun p np => q _ _ (s1.trans (same_put np)) (.tup upd_same ((DxAll.reverse' hs).up (same_put np)))⟩
/-- (a,) * 2 -/
theorem mh_two (h1 : MkH K σ H0 te (.tuple [d])) : MkH K σ H0 (tOp (rRepT K) te (tC (.int 2))) (.tuple [d, d]) := fun H Q s q =>
  h1 H _ s fun x H1 s1 dx => by
    cases dx with
    | @tup a xs _ ha hs =>
    cases hs with
    | @cons v vs _ _ hv hs =>
    cases hs
    exact ⟨a, 2, [v], rfl, rfl, SqT.of ha, by simp, by decide, by decide, by show 1 ≤ 1000; decide, fun p np => q _ _ (s1.trans (same_put np)) (.tup upd_same (.cons (hv.up (same_put np)) (.cons (hv.up (same_put np)) .nil)))⟩
theorem asg_mh {j : Nat} {rest : TS} {D : Ends} (m : MkH K σ H0 te d) (q : ∀ x H', Same H0 H' → Dx K H' x d → rest D (σ.set j (some x)) H') : tSeq (tAsg te (gName j)) rest D σ H0 := m H0 _ (Same.refl H0) q
theorem asg1_mh {j : Nat} {D : Ends} (m : MkH K σ H0 te d) (q : ∀ x H', Same H0 H' → Dx K H' x d → D.nx (σ.set j (some x)) H') : tAsg te (gName j) D σ H0 := m H0 _ (Same.refl H0) q
theorem seq_mh {g : TG} {rest : TS} {D : Ends} (m : MkH K σ H0 te d) (q : ∀ x H', Same H0 H' → Dx K H' x d → g x σ H' (fun σ2 H2 => rest D σ2 H2)) : tSeq (tAsg te g) rest D σ H0 := m H0 _ (Same.refl H0) q
/-- a test that comes out as b -/
def TsH (σ : L2.St) (H0 : Hp) (t : TT) (b : Bool) : Prop := ∀ (H : Hp) (Q : Bool → Hp → Prop), Same H0 H → (∀ H', Same H H' → Q b H') → t σ H Q
theorem TsH.up {H1 : Hp} {t : TT} {b : Bool} (h : TsH σ H0 t b) (s : Same H0 H1) : TsH σ H1 t b := fun H Q s' q => h H Q (s.trans s') q
theorem ts_orF {t1 t2 : TT} (h1 : TsH σ H0 t1 false) (h2 : TsH σ H0 t2 false) : TsH σ H0 (tOr t1 t2) false := fun H Q s q => h1 H _ s fun H1 s1 => h2 H1 _ (s.trans s1) fun H2 s2 => q H2 (s1.trans s2)
theorem ts_andF {t1 t2 : TT} (h1 : TsH σ H0 t1 false) : TsH σ H0 (tAnd t1 t2) false := fun H Q s q => h1 H _ s fun H1 s1 => q H1 s1
theorem ts_and {t1 t2 : TT} {b : Bool} (h1 : TsH σ H0 t1 true) (h2 : TsH σ H0 t2 b) : TsH σ H0 (tAnd t1 t2) b := fun H Q s q => h1 H _ s fun H1 s1 => h2 H1 _ (s.trans s1) fun H2 s2 => q H2 (s1.trans s2)
/-- an if whose test fails -/
theorem if_tsF {t : TT} {A rest : TS} {D : Ends} (h : TsH σ H0 t false) (q : ∀ H', Same H0 H' → rest D σ H') : tSeq (tIfS t A tNext) rest D σ H0 := h H0 _ (Same.refl H0) q
theorem if1_tsF {t : TT} {A : TS} {D : Ends} (h : TsH σ H0 t false) (q : ∀ H', Same H0 H' → D.nx σ H') : tIfS t A tNext D σ H0 := h H0 _ (Same.refl H0) q
end
end Kx
/-! A def by its body, where nothing around shows itself. -/
namespace Kx
open PySem PySem.Spec PyProof.Rows L2 LamX
/-- a def by its body, where nothing around shows itself, its code object told -/
theorem okGC {P : Program} {w : World} {K : PySem.W.Frag} {mg : Str → Option Value} {base : Heap} {x qual : Str} {st : Stmt} {f : Addr} {fd : FuncData} {N ps : List Str} {k : Nat} {sp : Sp} (F : Fun K x qual st f fd) (S : FnScope N ps (defScope st)) (len : ∀ vs H Q E, sp vs H Q E → vs.length = ps.length)
    (hbody : ∀ (cdv : Value) (A : Around) (outer : List Env) (s : Shared) (H : Hp) (vs : List V) (Q : VK) (E : XK), fd.code = cdv → Calm (A.deeper (envOfC qual (defScope st) s.heap.objs.size f cdv)) → Room k (A.deeper (envOfC qual (defScope st) s.heap.objs.size f cdv)) → sp vs H Q E →
      ∃ t, PSs (cxOf CX0 P w K mg base N qual (defScope st) f cdv A outer s H E).nox (defBody st) t ∧ t { nx := fun _ H' => Q .non H', rt := Q } (start N vs) H) : FnG P w K mg base (k + 1) f fd ps sp := by
  obtain ⟨oc, od, kV, doc, pm, an, cdv, ct, osl, rfl, lk, hcd⟩ := F.ex
  constructor
  · exact len
  intro A outer s H args us vs Q E cm hr e0 hb r hsp
  have nl := len _ _ _ _ hsp
  have kin : K.In s.heap := e0.mod.kin.keeps fun b o e => (e0.bs b o e).1
  have lim : s.heap.NoLimit := e0.mod.nolimit.keeps fun b o e => (e0.bs b o e).1
  refine codeAny_call_function hr.depth (kin _ _ lk) rfl S.co S.gen rfl (PySem.W.codeRec_of kin hcd) (hb _ _ _ _ (wpAny_newFunctionEnv_cells S.kind ?_ ?_))
  · rintro ⟨n, v⟩ hy
    rcases S.par n (List.of_mem_zip hy).1 with q | q
    · exact .inl q
    · exact .inr ⟨q, PySem.W.cellsFrom_some _ _ _ (.inl q)⟩
  rintro env rfl s1 x
  refine ⟨lim.keeps x.toInCall.keep, codeAny_func ?_⟩
  obtain ⟨t, ht, hq⟩ := hbody cdv A outer s H vs Q E rfl (calm_deeper cm) (hr.deeper _) hsp
  have J0 := inv_start (CX := CX0) (f := f) (cd := cdv) (E := E) (qual := qual) S hr.hd e0 nl r x
  refine wpAny_mono (ht.nox.run [] s1 _ H _ J0 hq) ?_ fun e s' hs => hs
  intro fl s' hs
  rcases fl with _ | _ | _ | u
  · obtain ⟨σ', H', J, q⟩ := hs
    exact ⟨.non, H', J.os, J.bare, J.base, J.hok, rfl, q⟩
  · obtain ⟨_, _, _, q⟩ := hs
    exact q.elim
  · obtain ⟨_, _, _, q⟩ := hs
    exact q.elim
  · obtain ⟨v, σ', H', J, rv, q⟩ := hs
    exact ⟨v, H', J.os, J.bare, J.base, J.hok, rv, q⟩
end Kx
/-! law. -/
namespace K13
open PySem PySem.Spec PyProof.Rows L2 Kx
def BD1 : List PyData := [.none, .int 5, .tuple [], .list [.str "a=b"], .tuple [.tuple [.tuple [], .none]], .str "", .str "never ", .str "a=b=c", .str "a=b => ", .str " => a=b", .str "a=b & => never", .bool true]
def BD2 : List PyData := [.str "a=b =>never", .str "a=b  => never", .str "f(a)=f(a,a)", .str "a=a", .str "b=a", .str "f()=g", .str "f(a,)=g", .str "abcdefghi=b"]
def badB (d : PyData) : Bool := (toldF d).isNone && (match d with | .str y => decide (y.length ≤ 2000) && decide (cnt 38 y + cnt 62 y ≤ 90) | _ => true)
theorem bad_all : (BD1 ++ BD2).all badB = true := by decide +kernel
theorem bad_at {d : PyData} (h : d ∈ BD1 ++ BD2) : readD d = .str "parse" ∧ ∀ y, d = .str y → y.length ≤ 2000 ∧ cnt 38 y + cnt 62 y ≤ 90 := by
  have z := List.all_eq_true.mp bad_all d h
  unfold badB at z
  rw [Bool.and_eq_true] at z
  refine ⟨?_, fun y e => ?_⟩
  · unfold readD
    cases e : toldF d with
    | none => rfl
    | some F => rw [e] at z; cases z.1
  · subst e
    have := z.2
    simp only [Bool.and_eq_true, decide_eq_true_eq] at this
    exact this
def T1 : PyData := .tuple [.tuple [], .none]
def T2 : PyData := .tuple [.tuple [], .tuple [cA "a", cA "never"]]
def T3 : PyData := .tuple [.tuple [], .tuple [cA "never", cA "z"]]
def T4 : PyData := .tuple [.tuple [.tuple [cA "a", cA "b"]], .tuple [cA "neverx", cA "z"]]
theorem told2 : toldF (.str "a=never") = some T2 := known (c := .tuple [cA "a", cA "never"]) [("a", 0), ("never", 0)] (known_pair (by decide +kernel) (by decide +kernel) (by decide +kernel)) .nil (by decide) (by decide +kernel) (.inr (List.mem_singleton.mpr rfl))
theorem told3 : toldF (.str "never=z") = some T3 := known (c := .tuple [cA "never", cA "z"]) [("never", 0), ("z", 0)] (known_pair (by decide +kernel) (by decide +kernel) (by decide +kernel)) .nil (by decide) (by decide +kernel) (.inr (List.mem_singleton.mpr rfl))
theorem told4 : toldF (.str "a=b => neverx=z") = some T4 := known (L := [.tuple [cA "a", cA "b"]]) (c := .tuple [cA "neverx", cA "z"]) [("a", 0), ("b", 0), ("neverx", 0), ("z", 0)] (fun z hz => by
  have hz : z ∈ [PyData.tuple [cA "a", cA "b"]] ++ [PyData.tuple [cA "neverx", cA "z"]] := hz
  rcases List.mem_append.mp hz with hz | hz
  · obtain ⟨a, b, e, f1, f2, r1, r2, rest⟩ := known_pair (x := "a") (y := "b") (by decide +kernel) (by decide +kernel) (by decide +kernel) z hz
    exact ⟨a, b, e, f1, f2, fun r hr => by have := r1 r hr; simp at this ⊢; rcases this with h | h <;> simp [h], fun r hr => by have := r2 r hr; simp at this ⊢; rcases this with h | h <;> simp [h], rest⟩
  · obtain ⟨a, b, e, f1, f2, r1, r2, rest⟩ := known_pair (x := "neverx") (y := "z") (by decide +kernel) (by decide +kernel) (by decide +kernel) z hz
    exact ⟨a, b, e, f1, f2, fun r hr => by have := r1 r hr; simp at this ⊢; rcases this with h | h <;> simp [h], fun r hr => by have := r2 r hr; simp at this ⊢; rcases this with h | h <;> simp [h], rest⟩) (List.pairwise_singleton _ _) (by decide) (by decide +kernel) (.inr (List.mem_singleton.mpr rfl))
theorem fa_self {rs : List NK} {n m : Nat} {L : List PyData} {c : PyData} (h : Fa rs n m L c) : PyData.eqv (.tuple [.tuple L, c]) (.tuple [.tuple L, c]) = true := by
  have cf : ∀ d, Pr rs n d → Cf d := fun d hd => by
    obtain ⟨a, b, e, ha, hb, _⟩ := hd.ex
    exact ⟨a, b, e, ha.fm, hb.fm⟩
  have h1 : PyData.eqvAll L L = true := (cfs_eqv (fun d hd => cf d (h.ps d hd)) (fun d hd => cf d (h.ps d hd))).mpr rfl
  have h2 : PyData.eqv c c = true := by
    rcases h.c with rfl | hc
    · rfl
    · exact (cf_eqv (cf c hc) (cf c hc)).mpr rfl
  simp [PyData.eqv, PyData.eqvAll, h1, h2]
theorem dx_strs {K : PySem.W.Frag} {H : Hp} : ∀ l : List Str, DxAll K H (l.map V.str) (l.map PyData.str)
  | [] => .nil
  | x :: l => .cons (.str x) (dx_strs l)
section
variable {K : PySem.W.Frag} {σ : L2.St} {H0 : Hp} {ta : TA} {ds es : List PyData}
theorem asg_lst {j : Nat} {rest : TS} {D : L2.Ends} (m : MkHs K σ H0 ta ds) (few : ds.length ≤ 100) (q : ∀ xs p H', Same H0 H' → H' p = some (.lst xs) → DxAll K H' xs ds → rest D (σ.set j (some (.ref p))) H') : tSeq (tAsg (tLst ta) (gName j)) rest D σ H0 :=
  m H0 _ (Same.refl H0) fun xs H1 s1 d1 => ⟨by rw [d1.length]; exact Nat.le_of_lt (small1000 (by omega)), fun p np => q xs p _ (s1.trans (same_put np)) upd_same (d1.up (same_put np))⟩
theorem lcat_run {i : Nat} {p : Addr} {xs : List V} {Q : VK} (hi : σ[i]? = some (some (.ref p))) (hp : H0 p = some (.lst xs)) (dx : DxAll K H0 xs es) (m : MkHs K σ H0 ta ds) (few : es.length + ds.length ≤ 100) (q : ∀ zs M H', Same H0 H' → H' M = some (.lst zs) → DxAll K H' zs (es ++ ds) → Q (.ref M) H') : tOp rCat (tVar i) (tLst ta) σ H0 Q :=
  ⟨_, hi, m H0 _ (Same.refl H0) fun ys H4 s4 d4 => by
    have l1 := dx.length
    have l2 := d4.length
    refine ⟨Nat.le_of_lt (small1000 (by omega)), fun e ne => ⟨p, e, xs, ys, rfl, rfl, same_put ne _ _ (s4 _ _ hp), upd_same, Nat.le_of_lt (small1000 (by omega)), fun M nM => ?_⟩⟩
    have sM := (same_put (o := .lst ys) ne).trans (same_put (o := .lst (xs ++ ys)) nM)
    exact q _ M _ (s4.trans sM) upd_same (((dx.up s4).append d4).up sM)⟩
theorem asg_cat {i j : Nat} {p : Addr} {xs : List V} {rest : TS} {D : L2.Ends} (hi : σ[i]? = some (some (.ref p))) (hp : H0 p = some (.lst xs)) (dx : DxAll K H0 xs es) (m : MkHs K σ H0 ta ds) (few : es.length + ds.length ≤ 100) (q : ∀ zs M H', Same H0 H' → H' M = some (.lst zs) → DxAll K H' zs (es ++ ds) → rest D (σ.set j (some (.ref M))) H') : tSeq (tAsg (tOp rCat (tVar i) (tLst ta)) (gName j)) rest D σ H0 :=
  lcat_run hi hp dx m few q
end
section
variable {P : Program} {w : World} {K : PySem.W.Frag} {mg : Str → Option Value} {base : Heap}
def spLaw (K : PySem.W.Frag) : Sp := fun vs H Q _ => ∃ (a : Addr) (ns : List Int), vs = [.ref a] ∧ SqL K H a (ns.map V.int) ∧ ∀ H', Q (.bl true) H'
theorem ok_law (T : Tx K mg) : FnG P w K mg base 110 T.alaw T.dlaw ["script"] (spLaw K) := by
  have nd := sc_law.nd
  have GD := ok_dice (P := P) (w := w) (base := base) T
  have GF := ok_df (P := P) (w := w) (base := base) T 3 (by decide)
  have GN := ok_names (P := P) (w := w) (base := base) T
  have GL := ok_lf (P := P) (w := w) (base := base) T
  have GT := ok_ft (P := P) (w := w) (base := base) T
  have GR := ok_lr (P := P) (w := w) (base := base) T
  have GS := ok_sp (P := P) (w := w) (base := base) T
  have GU := ok_du (P := P) (w := w) (base := base) T 100 (by decide)
  have GX := ok_rf (P := P) (w := w) (base := base) T
  refine okGC T.flaw sc_law (fun vs H Q E h => ?_) (fun cdv A outer s H vs Q E ecd cm hr h => ?_)
  · obtain ⟨a, ns, rfl, _⟩ := h
    rfl
  obtain ⟨a, ns, rfl, hS, q⟩ := h
  refine ⟨_, (pss_cons (ps_for PassesOwn.never rfl (pi_range1 (by rfl) T.b_range (pa_cons (pe_callB (call_max2 rfl) (by rfl) T.b_max (by decide +kernel) (pa_cons pe_int (pa_cons (pe_callB (call_min2 rfl) (by rfl) T.b_min (by decide +kernel) (pa_cons pe_int (pa_cons (pe_callB call_len_seq (by rfl) T.b_len (by decide +kernel) (pa_cons (pv 0) pa_nil)) pa_nil))) pa_nil))) pa_nil)) (pg_name (i := 1) nd rfl (.inl rfl)) (pss_cons (ps_set (i := 2) nd rfl (.inl rfl) (pe_call GD (hr.mono (by omega)) (by rfl) T.g_law_dice T.f_law_dice.kp T.n_law_dice .nil pass0 (pa_cons (pv 0) (pa_cons (pv 1) pa_nil))))
      (pss_one (ps_for PassesOwn.never rfl (pi_range1 (by rfl) T.b_range (pa_cons pe_int pa_nil)) (pg_name (i := 3) nd rfl (.inl rfl)) (pss_cons (ps_set (i := 4) nd rfl (.inl rfl) (pe_call GF (hr.mono (by omega)) (by rfl) T.g_law_drawn_fact T.f_law_drawn_fact.kp T.n_law_drawn_fact .nil pass0 (pa_cons (pv 2) (pa_cons (pe_call GN (hr.mono (by omega)) (by rfl) T.g_law_names T.f_law_names.kp T.n_law_names .nil pass0 (pa_cons (pv 2) (pa_cons pe_int pa_nil))) (pa_cons pe_int (pa_cons pe_int pa_nil))))))
      (pss_cons (ps_set (i := 5) nd rfl (.inl rfl) (pe_call GL (hr.mono (by omega)) (by rfl) T.g_law_fact_text T.f_law_fact_text.kp T.n_law_fact_text .nil pass0 (pa_cons (pv 4) pa_nil)))
      (pss_cons (ps_if (PW.pt (pw_or (pt_cmpR op_ne (pe_call (E := E0) GT (hr.mono (by omega)) (by rfl) T.gfact_text T.ffact_text.kp T.nfact_text .nil (passes_call takes00 (fun _ _ _ _ h => h)) (pa_cons (pv 4) pa_nil)) (pv 5) (nomark _)) (pw_or1 (pt_cmpR (op_neF (room200 hr)) (pe_call GR (hr.mono (by omega)) (by rfl) T.g_law_read T.f_law_read.kp T.n_law_read .nil pass0 (pa_cons (pv 5) pa_nil)) (pv 4) (nomark _))))) (pss_one (ps_ret pe_bl)) pss_nil)
      (pss_one (ps_for PassesOwn.never rfl (pi_range1 (by rfl) T.b_range (pa_cons pe_int pa_nil)) (pg_name (i := 6) nd rfl (.inl rfl)) (pss_cons (ps_set (i := 7) nd rfl (.inl rfl) (pe_call GS (hr.mono (by omega)) (by rfl) T.g_law_spoilt T.f_law_spoilt.kp T.n_law_spoilt .nil pass0 (pa_cons (pv 2) (pa_cons (pv 5) pa_nil))))
      (pss_one (ps_if (pt_cmpR op_ne (pe_callB (cr_reprF cm (room200 hr)) (by rfl) T.b_repr (by decide +kernel) (pa_cons (pe_call GR (hr.mono (by omega)) (by rfl) T.g_law_read T.f_law_read.kp T.n_law_read .nil pass0 (pa_cons (pv 7) pa_nil)) pa_nil)) (pe_callB (cr_reprF cm (room200 hr)) (by rfl) T.b_repr (by decide +kernel) (pa_cons (pe_call GU (hr.mono (by omega)) (by rfl) T.g_law_due T.f_law_due.kp T.n_law_due .nil pass0 (pa_cons (pv 7) pa_nil)) pa_nil)) (nomark _)) (pss_one (ps_ret pe_bl)) pss_nil))))))))))))
      (pss_cons (ps_set (i := 8) nd rfl (.inl rfl) (pe_lst (pa_cons pe_non (pa_cons pe_int (pa_cons (pe_tup pa_nil) (pa_cons (pe_lst (pa_cons pe_str pa_nil)) (pa_cons (pe_tup (pa_cons (pe_tup (pa_cons (pe_tup pa_nil) (pa_cons pe_non pa_nil))) pa_nil)) (pa_cons pe_str (pa_cons pe_str (pa_cons pe_str (pa_cons pe_str (pa_cons pe_str (pa_cons pe_str (pa_cons pe_bl pa_nil))))))))))))))
      (pss_cons (ps_set (i := 8) nd rfl (.inl rfl) (pe_op op_cat (pv 8) (pe_lst (pa_cons pe_str (pa_cons pe_str (pa_cons pe_str (pa_cons pe_str (pa_cons pe_str (pa_cons pe_str (pa_cons pe_str (pa_cons pe_str pa_nil)))))))))))
      (pss_cons (ps_if (pt_cmpR (op_neF (room200 hr)) (pe_lc (own := [("one", 11)]) (g := (gName 11)) (tt := tYes) (by rfl) nd (pi_list (pv 8)) (blkOk_by (own := [("one", 11)]) (N := N_law) (sc := defScope s_law) (by decide +kernel)) (fun _ _ _ _ _ => pg_name (i := 11) nd rfl (.inl rfl)) (fun _ _ _ _ _ => pts_nil) (fun _ _ _ _ _ => (pe_call GR (hr.mono (by omega)) (by rfl) T.g_law_read T.f_law_read.kp T.n_law_read .nil pass0 (pa_cons (pv 11) pa_nil)))) (pe_op op_rep (pe_lst (pa_cons pe_str pa_nil)) (pe_callB call_len_seq (by rfl) T.b_len (by decide +kernel) (pa_cons (pv 8) pa_nil))) (nomark _)) (pss_one (ps_ret pe_bl)) pss_nil)
      (pss_cons (ps_set (i := 9) nd rfl (.inl rfl) (pe_lst (pa_cons (pe_call (E := E0) GX (hr.mono (by omega)) (by rfl) T.gread_fact T.fread_fact.kp T.nread_fact .nil (passes_call takes00 (fun _ _ _ _ h => h)) (pa_cons pe_str pa_nil)) (pa_cons (pe_call (E := E0) GX (hr.mono (by omega)) (by rfl) T.gread_fact T.fread_fact.kp T.nread_fact .nil (passes_call takes00 (fun _ _ _ _ h => h)) (pa_cons pe_str pa_nil)) (pa_cons (pe_call (E := E0) GX (hr.mono (by omega)) (by rfl) T.gread_fact T.fread_fact.kp T.nread_fact .nil (passes_call takes00 (fun _ _ _ _ h => h)) (pa_cons pe_str pa_nil)) (pa_cons (pe_call (E := E0) GX (hr.mono (by omega)) (by rfl) T.gread_fact T.fread_fact.kp T.nread_fact .nil (passes_call takes00 (fun _ _ _ _ h => h)) (pa_cons pe_str pa_nil)) pa_nil))))))
      (pss_cons (ps_set (i := 10) nd rfl (.inl rfl) (pe_lst (pa_cons (pe_tup (pa_cons (pe_tup pa_nil) (pa_cons pe_non pa_nil))) (pa_cons (pe_tup (pa_cons (pe_tup pa_nil) (pa_cons (pe_tup (pa_cons (pe_tup (pa_cons pe_str pa_nil)) (pa_cons (pe_tup (pa_cons pe_str pa_nil)) pa_nil))) pa_nil))) (pa_cons (pe_tup (pa_cons (pe_tup pa_nil) (pa_cons (pe_tup (pa_cons (pe_tup (pa_cons pe_str pa_nil)) (pa_cons (pe_tup (pa_cons pe_str pa_nil)) pa_nil))) pa_nil))) pa_nil)))))
      (pss_one (ps_ret (pe_cmpR (op_eqF (room200 hr)) (pv 9) (pe_op op_cat (pv 10) (pe_lst (pa_cons (pe_tup (pa_cons (pe_tup (pa_cons (pe_tup (pa_cons (pe_tup (pa_cons pe_str pa_nil)) (pa_cons (pe_tup (pa_cons pe_str pa_nil)) pa_nil))) pa_nil)) (pa_cons (pe_tup (pa_cons (pe_tup (pa_cons pe_str pa_nil)) (pa_cons (pe_tup (pa_cons pe_str pa_nil)) pa_nil))) pa_nil))) pa_nil))) (nomark _)))))))))), ?_⟩
  have jb : ∀ n : Nat, 1 ≤ (if (if (n : Int) < 8 then (n : Int) else 8) > 1 then (if (n : Int) < 8 then (n : Int) else 8) else 1) ∧ (if (if (n : Int) < 8 then (n : Int) else 8) > 1 then (if (n : Int) < 8 then (n : Int) else 8) else 1) ≤ 8 := fun n => by
    split <;> split <;> omega
  obtain ⟨j1, j2⟩ := jb (ns.map V.int).length
  refine ⟨_, rfl, a, _, rfl, .inl hS, 8, _, rfl, 1, _, rfl, _, rfl, by omega, by omega, ?_⟩
  generalize (if (if (((ns.map V.int).length : Nat) : Int) < 8 then (((ns.map V.int).length : Nat) : Int) else 8) > 1 then (if (((ns.map V.int).length : Nat) : Int) < 8 then (((ns.map V.int).length : Nat) : Int) else 8) else 1) = j at j1 j2 ⊢
  refine for_range (fun i σ H' => Same H H' ∧ ∃ y1 y2 y3 y4 y5 y6 y7, σ = [some (.ref a), y1, y2, y3, y4, y5, y6, y7, none, none, none, none]) ⟨Same.refl H, none, none, none, none, none, none, none, rfl⟩ ?_ ?_
  · rintro i σ H1 hi ⟨s1, y1, y2, y3, y4, y5, y6, y7, rfl⟩
    have hS1 : SqL K H1 a (ns.map V.int) := by
      rcases hS with (h | ⟨o, h⟩) | h
      · exact .inl (.inl (s1 _ _ h))
      · exact .inl (.inr ⟨o, s1 _ _ h⟩)
      · exact .inr h
    refine ⟨_, rfl, _, rfl, a, ns, i, ?_, hS1, by omega, fun H2 p s2 np d0 => ?_⟩
    · rw [Int.zero_add]
      rfl
    refine ⟨4, rfl, by decide, by decide, for_range (fun k σ G => But p H1 G ∧ Dice G p (5000 * k) ∧ ∃ y1 y3 y4 y5 y6 y7, σ = [some (.ref a), y1, some (.ref p), y3, y4, y5, y6, y7, none, none, none, none]) ⟨But.of s2, d0, _, _, _, _, _, _, rfl⟩ ?_ ?_⟩
    · rintro k σ G1 hk ⟨bG, dG, z1, z3, z4, z5, z6, z7, rfl⟩
      have hk : k < 4 := hk
      have cp : cap = 1000000 := rfl
      refine ⟨_, rfl, _, rfl, p, 5000 * k, rfl, dG, by omega, fun b zs G2 b2 d2 nb nba ri gd => ⟨p, b, 3, _, zs, rfl, by decide, by decide, by decide, d2, by omega, ri, nba, gd, fun x L c G3 b3 d3 dx fa => ?_⟩⟩
      have F := gd.fn
      dsimp only [gName]
      refine ⟨_, rfl, x, L, c, _, 3, rfl, dx, fa, by decide, fun G4 s4 => ?_⟩
      dsimp only [gName]
      have txb := ft_txb fa F
      have rb : readD (.str (ftS L c)) = .tuple [.tuple L, c] := by
        have := read_back fa (by decide) F
        show (factR (ftS L c)).getD _ = _
        rw [this]
        rfl
      have lyF := fa_ly fa (by decide)
      have sby := txb.sb
      have dx4 := dx.up s4
      refine ⟨_, rfl, x, L, c, rfl, fa.fz (by decide) (by decide) (by decide) dx4, fa.fact (by decide) F, fun G5 s5 => ⟨_, rfl, rfl, _, rfl, ?_⟩⟩
      rw [show (!decide (V.str (ftS L c) = V.str (ftS L c))) = false by simp]
      refine iteF ⟨_, rfl, .str (ftS L c), .str (ftS L c), rfl, .str _, fun y e => by cases e; exact ⟨sby.l, sby.m⟩, fun v G6 s6 dv => ?_⟩
      rw [rb] at dv
      have dx6 := (dx4.up s5).up s6
      refine ⟨_, rfl, _, _, Dx.dp lyF.hd dv, Dx.dp lyF.hd dx6, lyF.lay, lyF.lay, by have := lyF.dp; omega, _, rfl, ?_⟩
      rw [fa_self fa]
      refine iteF ?_
      have b6 : But p G1 G6 := b2.trans (b3.trans ((But.of s4).trans ((But.of s5).trans (But.of s6))))
      have d6 := ((d3.up s4).up s5).up s6
      refine ⟨6, rfl, by decide, by decide, for_range (fun m σ G => But p G6 G ∧ Dice G p (5000 * k + 1400 + 10 * m) ∧ ∃ y6 y7, σ = [some (.ref a), z1, some (.ref p), some (.int (0 + (k : Int))), some x, some (.str (ftS L c)), y6, y7, none, none, none, none]) ⟨But.refl _ _, d6.le (by omega), _, _, rfl⟩ ?_ ?_⟩
      · rintro m σ G7 hm ⟨b7, d7, w6, w7, rfl⟩
        have hm : m < 6 := hm
        refine ⟨_, rfl, _, rfl, p, _, ftS L c, rfl, d7, by omega, txb, fun z G8 b8 d8 sb => ?_⟩
        dsimp only [gName]
        have sh := read_shw sb
        refine ⟨_, rfl, .str z, .str z, rfl, .str z, fun y e => by cases e; exact ⟨sb.l, sb.m⟩, fun v G9 s9 dv9 => ⟨v, readD (.str z), rfl, dv9, sh.sw, (fun e => absurd (sh.hd.symm.trans e) (by decide)), sh.dp, sh.ln, _, rfl, z, rfl, sb.l, sb.m, sb.o, fun v2 Ga sa dva => ⟨v2, readD (.str z), rfl, dva, sh.sw, (fun e => absurd (sh.hd.symm.trans e) (by decide)), sh.dp, sh.ln, rfl, _, rfl, ?_⟩⟩⟩
        rw [show (!decide (V.str (readD (.str z)).shown = V.str (readD (.str z)).shown)) = false by simp]
        exact iteF ⟨b7.trans (b8.trans ((But.of s9).trans (But.of sa))), ((d8.up s9).up sa).le (by omega), _, _, rfl⟩
      · rintro σ G7 ⟨b7, d7, w6, w7, rfl⟩
        exact ⟨bG.trans (b6.trans b7), d7.le (by omega), _, _, _, _, _, _, rfl⟩
    · rintro σ G1 ⟨bG, dG, z1, z3, z4, z5, z6, z7, rfl⟩
      exact ⟨s1.trans fun b o h => bG b o h (ne_of_none h np), _, _, _, _, _, _, _, rfl⟩
  rintro σ H1 ⟨s1, y1, y2, y3, y4, y5, y6, y7, rfl⟩
  have mh_i : ∀ {σ : L2.St} {H0 : Hp} (n : Int), MkH K σ H0 (tC (.int n)) (.int n) := fun n H Q _ q => q _ H (Same.refl H) (.int n)
  have mh_b : ∀ {σ : L2.St} {H0 : Hp} (b : Bool), MkH K σ H0 (tC (.bl b)) (.bool b) := fun b H Q _ q => q _ H (Same.refl H) (.bl b)
  have mk_ca : ∀ {σ : L2.St} {H0 : Hp} (x : Str), MkH K σ H0 (tTup (tCons (tC (.str x)) tNil)) (cA x) := fun x => mh_tup (mh_cons (mh_str x) mh_nil) (le100 rfl)
  have mk_pr : ∀ {σ : L2.St} {H0 : Hp} (x y : Str), MkH K σ H0 (tTup (tCons (tTup (tCons (tC (.str x)) tNil)) (tCons (tTup (tCons (tC (.str y)) tNil)) tNil))) (.tuple [cA x, cA y]) := fun x y => mh_tup (mh_cons (mk_ca x) (mh_cons (mk_ca y) mh_nil)) (le100 rfl)
  have sz : 10000 ≤ sizeLine := by decide
  -- bad
  have hb1 := mh_cons (K := K) (σ := [some (.ref a), y1, y2, y3, y4, y5, y6, y7, none, none, none, none]) (H0 := H1) mh_non (mh_cons (mh_i 5) (mh_cons (mh_tup mh_nil (le100 rfl)) (mh_cons (mh_lst (mh_cons (mh_str "a=b") mh_nil) (le100 rfl)) (mh_cons (mh_tup (mh_cons (mh_tup (mh_cons (mh_tup mh_nil (le100 rfl)) (mh_cons mh_non mh_nil)) (le100 rfl)) mh_nil) (le100 rfl)) (mh_cons (mh_str "") (mh_cons (mh_str "never ") (mh_cons (mh_str "a=b=c") (mh_cons (mh_str "a=b => ") (mh_cons (mh_str " => a=b") (mh_cons (mh_str "a=b & => never") (mh_cons (mh_b true) mh_nil)))))))))))
  refine asg_lst (ds := BD1) hb1 (by decide) fun xs p H3 s3 hp d3 => ?_
  have hb2 := mh_cons (K := K) (σ := [some (.ref a), y1, y2, y3, y4, y5, y6, y7, some (.ref p), none, none, none]) (H0 := H3) (mh_str "a=b =>never") (mh_cons (mh_str "a=b  => never") (mh_cons (mh_str "f(a)=f(a,a)") (mh_cons (mh_str "a=a") (mh_cons (mh_str "b=a") (mh_cons (mh_str "f()=g") (mh_cons (mh_str "f(a,)=g") (mh_cons (mh_str "abcdefghi=b") mh_nil)))))))
  refine asg_cat (ds := BD2) rfl hp d3 hb2 (by decide) fun zs M H5 s5 hM dM => ?_
  have lM := dM.length
  -- all are no texts of facts
  refine ⟨_, rfl, M, rfl, ⟨_, SqL.of hM⟩, fun D nD => ?_⟩
  refine lc_list (K := K) (a := M) (xs := zs) (fun i G => Same H5 G ∧ G D = some (.lst (List.replicate i (V.str "parse")))) ⟨same_put nD, upd_same⟩ (fun i G _ h => SqL.of (h.1 _ _ hM)) ?_ ?_
  · rintro i x G hi ⟨sG, eD⟩
    have li : i < (BD1 ++ BD2).length := by rw [← lM]; exact (List.getElem?_eq_some_iff.mp hi).1
    obtain ⟨v, hv, dv⟩ := dM.get (List.getElem?_eq_getElem li)
    rw [hi] at hv
    cases hv
    obtain ⟨r1, r2⟩ := bad_at (List.getElem_mem li)
    have l20 : (BD1 ++ BD2).length = 20 := rfl
    refine ⟨rfl, (iteT (B := False) ?_ : if true = true then _ else False)⟩
    refine ⟨_, rfl, x, (BD1 ++ BD2)[i], rfl, dv.up sG, r2, fun v H' s' dv' => ?_⟩
    rw [r1] at dv'
    cases dv'
    refine ⟨_, s' _ _ eD, by rw [List.length_replicate]; omega, fun b o hb => ?_, ?_⟩
    · rw [upd_ne (ne_of_none hb nD)]
      exact s' _ _ (sG b o hb)
    · rw [upd_same, List.replicate_succ']
  rintro G ⟨sG, eD⟩
  rw [lM] at eD
  have l20 : (BD1 ++ BD2).length = 20 := rfl
  rw [l20] at eD lM
  refine ⟨by show 1 ≤ _; omega, fun e ne => ⟨_, rfl, M, zs, rfl, .inl (SqL.of (same_put ne _ _ (sG _ _ hM))), ?_⟩⟩
  rw [lM]
  refine ⟨e, (20 : Nat), [.str "parse"], rfl, rfl, upd_same, by decide, by decide, by decide, fun r nr => ?_⟩
  have se := same_put (o := .lst [V.str "parse"]) ne
  have eD2 := same_put (o := .lst (List.replicate (((20 : Nat) : Int)).toNat [V.str "parse"]).flatten) nr _ _ (se _ _ eD)
  have s6 := sG.trans (se.trans (same_put (o := .lst (List.replicate (((20 : Nat) : Int)).toNat [V.str "parse"]).flatten) nr))
  have dP : ∀ Hx : Hp, DxAll K Hx (List.replicate 20 (V.str "parse")) (List.replicate 20 (PyData.str "parse")) := fun Hx => by
    have := dx_strs (K := K) (H := Hx) (List.replicate 20 ("parse" : Str))
    simpa using this
  refine ⟨.list (List.replicate 20 (PyData.str "parse")), .list (List.replicate 20 (PyData.str "parse")), .lst (SqL.of eD2) (DxAll.dp rfl (dP _)), .lst (SqL.of upd_same) (DxAll.dp rfl (dP _)), by decide +kernel, by decide +kernel, by decide, _, rfl, ?_⟩
  rw [show PyData.eqv (.list (List.replicate 20 (PyData.str "parse"))) (.list (List.replicate 20 (PyData.str "parse"))) = true by decide +kernel]
  refine iteF ?_
  generalize upd (upd G e (.lst [V.str "parse"])) r (.lst (List.replicate (((20 : Nat) : Int)).toNat [V.str "parse"]).flatten) = H6 at s6
  -- told, due
  have mk_rf : ∀ {σ : L2.St} {H0 : Hp} {x : Str} {F : PyData}, toldF (.str x) = some F → x.length ≤ 2000 → cnt 38 x + cnt 62 x ≤ 90 → MkH K σ H0 (tCall (spRf K T.CParseError) [] E0 (tCons (tC (.str x)) tNil)) F := fun {σ H0 x F} e h1 h2 Hx Qx s q => by
    refine ⟨.str x, .str x, rfl, .str x, fun y ey => by cases ey; exact ⟨h1, h2⟩, fun z => ?_, fun d ed v H' s' dv => ?_⟩
    · rw [e] at z
      cases z
    · rw [e] at ed
      cases ed
      exact q v H' s' dv
  refine asg_mh (K := K) (d := .list [T1, T2, T3, T4]) (mh_lst (mh_cons (mk_rf known1 (by decide) (by decide)) (mh_cons (mk_rf told2 (by decide) (by decide)) (mh_cons (mk_rf told3 (by decide) (by decide)) (mh_cons (mk_rf told4 (by decide) (by decide)) mh_nil)))) (le100 rfl)) fun x9 H7 s7 d9 => ?_
  have hd1 := mh_cons (K := K) (σ := [some (.ref a), y1, y2, y3, y4, y5, y6, y7, some (.ref M), some x9, none, none]) (H0 := H7) (mh_tup (mh_cons (mh_tup mh_nil (le100 rfl)) (mh_cons mh_non mh_nil)) (le100 rfl)) (mh_cons (mh_tup (mh_cons (mh_tup mh_nil (le100 rfl)) (mh_cons (mk_pr "a" "never") mh_nil)) (le100 rfl)) (mh_cons (mh_tup (mh_cons (mh_tup mh_nil (le100 rfl)) (mh_cons (mk_pr "never" "z") mh_nil)) (le100 rfl)) mh_nil))
  refine asg_lst (ds := [T1, T2, T3]) hd1 (by decide) fun us p2 H9 s9 hp2 d8 => ?_
  have d9 := d9.up s9
  have hd2 := mh_cons (K := K) (σ := [some (.ref a), y1, y2, y3, y4, y5, y6, y7, some (.ref M), some x9, some (.ref p2), none]) (H0 := H9) (mh_tup (mh_cons (mh_tup (mh_cons (mk_pr "a" "b") mh_nil) (le100 rfl)) (mh_cons (mk_pr "neverx" "z") mh_nil)) (le100 rfl)) mh_nil
  refine ⟨_, rfl, ?_⟩
  refine lcat_run (ds := [T4]) rfl hp2 d8 hd2 (by decide) fun ws M2 H10 s10 hM2 dd => ?_
  refine ⟨.list [T1, T2, T3, T4], .list ([T1, T2, T3] ++ [T4]), Dx.dp (by decide +kernel) (d9.up s10), Dx.dp (by decide +kernel) (.lst hM2 dd), by decide +kernel, by decide +kernel, by decide +kernel, ?_⟩
  rw [show PyData.eqv (.list [T1, T2, T3, T4]) (.list ([T1, T2, T3] ++ [T4])) = true by decide +kernel]
  exact q _
end
end K13
open PySem PySem.Spec PyProof.Rows L2 Kx
theorem K13.tx_mk {K : PySem.W.Frag} {h : Heap} {mg : Str → Option Value} (X : K.In h) (G : h.Ns mainGlobals mg)
    {fwritten : Addr} {odwritten anwritten : Option Addr} {slwritten : Array (Option Value)} {ocwritten kVwritten dcwritten pmwritten cdwritten ctwritten : Value}
    {fis_name : Addr} {odis_name anis_name : Option Addr} {slis_name : Array (Option Value)} {ocis_name kVis_name dcis_name pmis_name cdis_name ctis_name : Value}
    {fis_term : Addr} {odis_term anis_term : Option Addr} {slis_term : Array (Option Value)} {ocis_term kVis_term dcis_term pmis_term cdis_term ctis_term : Value}
    {fread_term : Addr} {odread_term anread_term : Option Addr} {slread_term : Array (Option Value)} {ocread_term kVread_term dcread_term pmread_term cdread_term ctread_term : Value}
    {fjoint_places : Addr} {odjoint_places anjoint_places : Option Addr} {sljoint_places : Array (Option Value)} {ocjoint_places kVjoint_places dcjoint_places pmjoint_places cdjoint_places ctjoint_places : Value}
    {fhas_form : Addr} {odhas_form anhas_form : Option Addr} {slhas_form : Array (Option Value)} {ochas_form kVhas_form dchas_form pmhas_form cdhas_form cthas_form : Value}
    {fwords_in : Addr} {odwords_in anwords_in : Option Addr} {slwords_in : Array (Option Value)} {ocwords_in kVwords_in dcwords_in pmwords_in cdwords_in ctwords_in : Value}
    {fparsed : Addr} {odparsed anparsed : Option Addr} {slparsed : Array (Option Value)} {ocparsed kVparsed dcparsed pmparsed cdparsed ctparsed : Value}
    {fis_fact : Addr} {odis_fact anis_fact : Option Addr} {slis_fact : Array (Option Value)} {ocis_fact kVis_fact dcis_fact pmis_fact cdis_fact ctis_fact : Value}
    {ffact_text : Addr} {odfact_text anfact_text : Option Addr} {slfact_text : Array (Option Value)} {ocfact_text kVfact_text dcfact_text pmfact_text cdfact_text ctfact_text : Value}
    {fread_fact : Addr} {odread_fact anread_fact : Option Addr} {slread_fact : Array (Option Value)} {ocread_fact kVread_fact dcread_fact pmread_fact cdread_fact ctread_fact : Value}
    {fcheck_fact : Addr} {odcheck_fact ancheck_fact : Option Addr} {slcheck_fact : Array (Option Value)} {occheck_fact kVcheck_fact dccheck_fact pmcheck_fact cdcheck_fact ctcheck_fact : Value}
    {fis_couple : Addr} {odis_couple anis_couple : Option Addr} {slis_couple : Array (Option Value)} {ocis_couple kVis_couple dcis_couple pmis_couple cdis_couple ctis_couple : Value}
    {fare_couples : Addr} {odare_couples anare_couples : Option Addr} {slare_couples : Array (Option Value)} {ocare_couples kVare_couples dcare_couples pmare_couples cdare_couples ctare_couples : Value}
    {fis_ordered : Addr} {odis_ordered anis_ordered : Option Addr} {slis_ordered : Array (Option Value)} {ocis_ordered kVis_ordered dcis_ordered pmis_ordered cdis_ordered ctis_ordered : Value}
    {fkey_of : Addr} {odkey_of ankey_of : Option Addr} {slkey_of : Array (Option Value)} {ockey_of kVkey_of dckey_of pmkey_of cdkey_of ctkey_of : Value}
    {fsides_of : Addr} {odsides_of ansides_of : Option Addr} {slsides_of : Array (Option Value)} {ocsides_of kVsides_of dcsides_of pmsides_of cdsides_of ctsides_of : Value}
    {fpairs_in : Addr} {odpairs_in anpairs_in : Option Addr} {slpairs_in : Array (Option Value)} {ocpairs_in kVpairs_in dcpairs_in pmpairs_in cdpairs_in ctpairs_in : Value}
    {fread_couple : Addr} {odread_couple anread_couple : Option Addr} {slread_couple : Array (Option Value)} {ocread_couple kVread_couple dcread_couple pmread_couple cdread_couple ctread_couple : Value}
    {f_law_dice : Addr} {od_law_dice an_law_dice : Option Addr} {sl_law_dice : Array (Option Value)} {oc_law_dice kV_law_dice dc_law_dice pm_law_dice cd_law_dice ct_law_dice : Value}
    {f_law_roll : Addr} {od_law_roll an_law_roll : Option Addr} {sl_law_roll : Array (Option Value)} {oc_law_roll kV_law_roll dc_law_roll pm_law_roll cd_law_roll ct_law_roll : Value}
    {f_law_pick : Addr} {od_law_pick an_law_pick : Option Addr} {sl_law_pick : Array (Option Value)} {oc_law_pick kV_law_pick dc_law_pick pm_law_pick cd_law_pick ct_law_pick : Value}
    {f_law_mixed : Addr} {od_law_mixed an_law_mixed : Option Addr} {sl_law_mixed : Array (Option Value)} {oc_law_mixed kV_law_mixed dc_law_mixed pm_law_mixed cd_law_mixed ct_law_mixed : Value}
    {f_law_text : Addr} {od_law_text an_law_text : Option Addr} {sl_law_text : Array (Option Value)} {oc_law_text kV_law_text dc_law_text pm_law_text cd_law_text ct_law_text : Value}
    {f_law_pair : Addr} {od_law_pair an_law_pair : Option Addr} {sl_law_pair : Array (Option Value)} {oc_law_pair kV_law_pair dc_law_pair pm_law_pair cd_law_pair ct_law_pair : Value}
    {f_law_fact_text : Addr} {od_law_fact_text an_law_fact_text : Option Addr} {sl_law_fact_text : Array (Option Value)} {oc_law_fact_text kV_law_fact_text dc_law_fact_text pm_law_fact_text cd_law_fact_text ct_law_fact_text : Value}
    {f_law_names : Addr} {od_law_names an_law_names : Option Addr} {sl_law_names : Array (Option Value)} {oc_law_names kV_law_names dc_law_names pm_law_names cd_law_names ct_law_names : Value}
    {f_law_term : Addr} {od_law_term an_law_term : Option Addr} {sl_law_term : Array (Option Value)} {oc_law_term kV_law_term dc_law_term pm_law_term cd_law_term ct_law_term : Value}
    {f_law_drawn_pair : Addr} {od_law_drawn_pair an_law_drawn_pair : Option Addr} {sl_law_drawn_pair : Array (Option Value)} {oc_law_drawn_pair kV_law_drawn_pair dc_law_drawn_pair pm_law_drawn_pair cd_law_drawn_pair ct_law_drawn_pair : Value}
    {f_law_drawn_fact : Addr} {od_law_drawn_fact an_law_drawn_fact : Option Addr} {sl_law_drawn_fact : Array (Option Value)} {oc_law_drawn_fact kV_law_drawn_fact dc_law_drawn_fact pm_law_drawn_fact cd_law_drawn_fact ct_law_drawn_fact : Value}
    {f_law_read : Addr} {od_law_read an_law_read : Option Addr} {sl_law_read : Array (Option Value)} {oc_law_read kV_law_read dc_law_read pm_law_read cd_law_read ct_law_read : Value}
    {f_law_term_read : Addr} {od_law_term_read an_law_term_read : Option Addr} {sl_law_term_read : Array (Option Value)} {oc_law_term_read kV_law_term_read dc_law_term_read pm_law_term_read cd_law_term_read ct_law_term_read : Value}
    {f_law_pair_read : Addr} {od_law_pair_read an_law_pair_read : Option Addr} {sl_law_pair_read : Array (Option Value)} {oc_law_pair_read kV_law_pair_read dc_law_pair_read pm_law_pair_read cd_law_pair_read ct_law_pair_read : Value}
    {f_law_count : Addr} {od_law_count an_law_count : Option Addr} {sl_law_count : Array (Option Value)} {oc_law_count kV_law_count dc_law_count pm_law_count cd_law_count ct_law_count : Value}
    {f_law_due : Addr} {od_law_due an_law_due : Option Addr} {sl_law_due : Array (Option Value)} {oc_law_due kV_law_due dc_law_due pm_law_due cd_law_due ct_law_due : Value}
    {f_law_spoilt : Addr} {od_law_spoilt an_law_spoilt : Option Addr} {sl_law_spoilt : Array (Option Value)} {oc_law_spoilt kV_law_spoilt dc_law_spoilt pm_law_spoilt cd_law_spoilt ct_law_spoilt : Value}
    {flaw : Addr} {odlaw anlaw : Option Addr} {sllaw : Array (Option Value)} {oclaw kVlaw dclaw pmlaw cdlaw ctlaw : Value}
    (awritten : PySem.W.nsIn K mainGlobals "written" = some (some (.ref fwritten))) (lwritten : K.lookup fwritten = some ⟨ocwritten, odwritten, .func (PySem.W.fnOf "written" "written" (defArgs K13.s_written) (defBody K13.s_written) (defScope K13.s_written) .none kVwritten dcwritten pmwritten anwritten cdwritten ctwritten), slwritten⟩) (cwritten : PySem.W.codeIn K cdwritten "written" = true) (kwritten : PySem.W.keepIn K (.ref fwritten) = true)
    (ais_name : PySem.W.nsIn K mainGlobals "is_name" = some (some (.ref fis_name))) (lis_name : K.lookup fis_name = some ⟨ocis_name, odis_name, .func (PySem.W.fnOf "is_name" "is_name" (defArgs K13.s_is_name) (defBody K13.s_is_name) (defScope K13.s_is_name) .none kVis_name dcis_name pmis_name anis_name cdis_name ctis_name), slis_name⟩) (cis_name : PySem.W.codeIn K cdis_name "is_name" = true) (kis_name : PySem.W.keepIn K (.ref fis_name) = true)
    (ais_term : PySem.W.nsIn K mainGlobals "is_term" = some (some (.ref fis_term))) (lis_term : K.lookup fis_term = some ⟨ocis_term, odis_term, .func (PySem.W.fnOf "is_term" "is_term" (defArgs K13.s_is_term) (defBody K13.s_is_term) (defScope K13.s_is_term) .none kVis_term dcis_term pmis_term anis_term cdis_term ctis_term), slis_term⟩) (cis_term : PySem.W.codeIn K cdis_term "is_term" = true) (kis_term : PySem.W.keepIn K (.ref fis_term) = true)
    (aread_term : PySem.W.nsIn K mainGlobals "read_term" = some (some (.ref fread_term))) (lread_term : K.lookup fread_term = some ⟨ocread_term, odread_term, .func (PySem.W.fnOf "read_term" "read_term" (defArgs K13.s_read_term) (defBody K13.s_read_term) (defScope K13.s_read_term) .none kVread_term dcread_term pmread_term anread_term cdread_term ctread_term), slread_term⟩) (cread_term : PySem.W.codeIn K cdread_term "read_term" = true) (kread_term : PySem.W.keepIn K (.ref fread_term) = true)
    (ajoint_places : PySem.W.nsIn K mainGlobals "joint_places" = some (some (.ref fjoint_places))) (ljoint_places : K.lookup fjoint_places = some ⟨ocjoint_places, odjoint_places, .func (PySem.W.fnOf "joint_places" "joint_places" (defArgs K13.s_joint_places) (defBody K13.s_joint_places) (defScope K13.s_joint_places) .none kVjoint_places dcjoint_places pmjoint_places anjoint_places cdjoint_places ctjoint_places), sljoint_places⟩) (cjoint_places : PySem.W.codeIn K cdjoint_places "joint_places" = true) (kjoint_places : PySem.W.keepIn K (.ref fjoint_places) = true)
    (ahas_form : PySem.W.nsIn K mainGlobals "has_form" = some (some (.ref fhas_form))) (lhas_form : K.lookup fhas_form = some ⟨ochas_form, odhas_form, .func (PySem.W.fnOf "has_form" "has_form" (defArgs K13.s_has_form) (defBody K13.s_has_form) (defScope K13.s_has_form) .none kVhas_form dchas_form pmhas_form anhas_form cdhas_form cthas_form), slhas_form⟩) (chas_form : PySem.W.codeIn K cdhas_form "has_form" = true) (khas_form : PySem.W.keepIn K (.ref fhas_form) = true)
    (awords_in : PySem.W.nsIn K mainGlobals "words_in" = some (some (.ref fwords_in))) (lwords_in : K.lookup fwords_in = some ⟨ocwords_in, odwords_in, .func (PySem.W.fnOf "words_in" "words_in" (defArgs K13.s_words_in) (defBody K13.s_words_in) (defScope K13.s_words_in) .none kVwords_in dcwords_in pmwords_in anwords_in cdwords_in ctwords_in), slwords_in⟩) (cwords_in : PySem.W.codeIn K cdwords_in "words_in" = true) (kwords_in : PySem.W.keepIn K (.ref fwords_in) = true)
    (aparsed : PySem.W.nsIn K mainGlobals "parsed" = some (some (.ref fparsed))) (lparsed : K.lookup fparsed = some ⟨ocparsed, odparsed, .func (PySem.W.fnOf "parsed" "parsed" (defArgs K13.s_parsed) (defBody K13.s_parsed) (defScope K13.s_parsed) .none kVparsed dcparsed pmparsed anparsed cdparsed ctparsed), slparsed⟩) (cparsed : PySem.W.codeIn K cdparsed "parsed" = true) (kparsed : PySem.W.keepIn K (.ref fparsed) = true)
    (ais_fact : PySem.W.nsIn K mainGlobals "is_fact" = some (some (.ref fis_fact))) (lis_fact : K.lookup fis_fact = some ⟨ocis_fact, odis_fact, .func (PySem.W.fnOf "is_fact" "is_fact" (defArgs K13.s_is_fact) (defBody K13.s_is_fact) (defScope K13.s_is_fact) .none kVis_fact dcis_fact pmis_fact anis_fact cdis_fact ctis_fact), slis_fact⟩) (cis_fact : PySem.W.codeIn K cdis_fact "is_fact" = true) (kis_fact : PySem.W.keepIn K (.ref fis_fact) = true)
    (afact_text : PySem.W.nsIn K mainGlobals "fact_text" = some (some (.ref ffact_text))) (lfact_text : K.lookup ffact_text = some ⟨ocfact_text, odfact_text, .func (PySem.W.fnOf "fact_text" "fact_text" (defArgs K13.s_fact_text) (defBody K13.s_fact_text) (defScope K13.s_fact_text) .none kVfact_text dcfact_text pmfact_text anfact_text cdfact_text ctfact_text), slfact_text⟩) (cfact_text : PySem.W.codeIn K cdfact_text "fact_text" = true) (kfact_text : PySem.W.keepIn K (.ref ffact_text) = true)
    (aread_fact : PySem.W.nsIn K mainGlobals "read_fact" = some (some (.ref fread_fact))) (lread_fact : K.lookup fread_fact = some ⟨ocread_fact, odread_fact, .func (PySem.W.fnOf "read_fact" "read_fact" (defArgs K13.s_read_fact) (defBody K13.s_read_fact) (defScope K13.s_read_fact) .none kVread_fact dcread_fact pmread_fact anread_fact cdread_fact ctread_fact), slread_fact⟩) (cread_fact : PySem.W.codeIn K cdread_fact "read_fact" = true) (kread_fact : PySem.W.keepIn K (.ref fread_fact) = true)
    (acheck_fact : PySem.W.nsIn K mainGlobals "check_fact" = some (some (.ref fcheck_fact))) (lcheck_fact : K.lookup fcheck_fact = some ⟨occheck_fact, odcheck_fact, .func (PySem.W.fnOf "check_fact" "check_fact" (defArgs K13.s_check_fact) (defBody K13.s_check_fact) (defScope K13.s_check_fact) .none kVcheck_fact dccheck_fact pmcheck_fact ancheck_fact cdcheck_fact ctcheck_fact), slcheck_fact⟩) (ccheck_fact : PySem.W.codeIn K cdcheck_fact "check_fact" = true) (kcheck_fact : PySem.W.keepIn K (.ref fcheck_fact) = true)
    (ais_couple : PySem.W.nsIn K mainGlobals "is_couple" = some (some (.ref fis_couple))) (lis_couple : K.lookup fis_couple = some ⟨ocis_couple, odis_couple, .func (PySem.W.fnOf "is_couple" "is_couple" (defArgs K13.s_is_couple) (defBody K13.s_is_couple) (defScope K13.s_is_couple) .none kVis_couple dcis_couple pmis_couple anis_couple cdis_couple ctis_couple), slis_couple⟩) (cis_couple : PySem.W.codeIn K cdis_couple "is_couple" = true) (kis_couple : PySem.W.keepIn K (.ref fis_couple) = true)
    (aare_couples : PySem.W.nsIn K mainGlobals "are_couples" = some (some (.ref fare_couples))) (lare_couples : K.lookup fare_couples = some ⟨ocare_couples, odare_couples, .func (PySem.W.fnOf "are_couples" "are_couples" (defArgs K13.s_are_couples) (defBody K13.s_are_couples) (defScope K13.s_are_couples) .none kVare_couples dcare_couples pmare_couples anare_couples cdare_couples ctare_couples), slare_couples⟩) (care_couples : PySem.W.codeIn K cdare_couples "are_couples" = true) (kare_couples : PySem.W.keepIn K (.ref fare_couples) = true)
    (ais_ordered : PySem.W.nsIn K mainGlobals "is_ordered" = some (some (.ref fis_ordered))) (lis_ordered : K.lookup fis_ordered = some ⟨ocis_ordered, odis_ordered, .func (PySem.W.fnOf "is_ordered" "is_ordered" (defArgs K13.s_is_ordered) (defBody K13.s_is_ordered) (defScope K13.s_is_ordered) .none kVis_ordered dcis_ordered pmis_ordered anis_ordered cdis_ordered ctis_ordered), slis_ordered⟩) (cis_ordered : PySem.W.codeIn K cdis_ordered "is_ordered" = true) (kis_ordered : PySem.W.keepIn K (.ref fis_ordered) = true)
    (akey_of : PySem.W.nsIn K mainGlobals "key_of" = some (some (.ref fkey_of))) (lkey_of : K.lookup fkey_of = some ⟨ockey_of, odkey_of, .func (PySem.W.fnOf "key_of" "key_of" (defArgs K13.s_key_of) (defBody K13.s_key_of) (defScope K13.s_key_of) .none kVkey_of dckey_of pmkey_of ankey_of cdkey_of ctkey_of), slkey_of⟩) (ckey_of : PySem.W.codeIn K cdkey_of "key_of" = true) (kkey_of : PySem.W.keepIn K (.ref fkey_of) = true)
    (asides_of : PySem.W.nsIn K mainGlobals "sides_of" = some (some (.ref fsides_of))) (lsides_of : K.lookup fsides_of = some ⟨ocsides_of, odsides_of, .func (PySem.W.fnOf "sides_of" "sides_of" (defArgs K13.s_sides_of) (defBody K13.s_sides_of) (defScope K13.s_sides_of) .none kVsides_of dcsides_of pmsides_of ansides_of cdsides_of ctsides_of), slsides_of⟩) (csides_of : PySem.W.codeIn K cdsides_of "sides_of" = true) (ksides_of : PySem.W.keepIn K (.ref fsides_of) = true)
    (apairs_in : PySem.W.nsIn K mainGlobals "pairs_in" = some (some (.ref fpairs_in))) (lpairs_in : K.lookup fpairs_in = some ⟨ocpairs_in, odpairs_in, .func (PySem.W.fnOf "pairs_in" "pairs_in" (defArgs K13.s_pairs_in) (defBody K13.s_pairs_in) (defScope K13.s_pairs_in) .none kVpairs_in dcpairs_in pmpairs_in anpairs_in cdpairs_in ctpairs_in), slpairs_in⟩) (cpairs_in : PySem.W.codeIn K cdpairs_in "pairs_in" = true) (kpairs_in : PySem.W.keepIn K (.ref fpairs_in) = true)
    (aread_couple : PySem.W.nsIn K mainGlobals "read_couple" = some (some (.ref fread_couple))) (lread_couple : K.lookup fread_couple = some ⟨ocread_couple, odread_couple, .func (PySem.W.fnOf "read_couple" "read_couple" (defArgs K13.s_read_couple) (defBody K13.s_read_couple) (defScope K13.s_read_couple) .none kVread_couple dcread_couple pmread_couple anread_couple cdread_couple ctread_couple), slread_couple⟩) (cread_couple : PySem.W.codeIn K cdread_couple "read_couple" = true) (kread_couple : PySem.W.keepIn K (.ref fread_couple) = true)
    (a_law_dice : PySem.W.nsIn K mainGlobals "_law_dice" = some (some (.ref f_law_dice))) (l_law_dice : K.lookup f_law_dice = some ⟨oc_law_dice, od_law_dice, .func (PySem.W.fnOf "_law_dice" "_law_dice" (defArgs K13.s__law_dice) (defBody K13.s__law_dice) (defScope K13.s__law_dice) .none kV_law_dice dc_law_dice pm_law_dice an_law_dice cd_law_dice ct_law_dice), sl_law_dice⟩) (c_law_dice : PySem.W.codeIn K cd_law_dice "_law_dice" = true) (k_law_dice : PySem.W.keepIn K (.ref f_law_dice) = true)
    (a_law_roll : PySem.W.nsIn K mainGlobals "_law_roll" = some (some (.ref f_law_roll))) (l_law_roll : K.lookup f_law_roll = some ⟨oc_law_roll, od_law_roll, .func (PySem.W.fnOf "_law_roll" "_law_roll" (defArgs K13.s__law_roll) (defBody K13.s__law_roll) (defScope K13.s__law_roll) .none kV_law_roll dc_law_roll pm_law_roll an_law_roll cd_law_roll ct_law_roll), sl_law_roll⟩) (c_law_roll : PySem.W.codeIn K cd_law_roll "_law_roll" = true) (k_law_roll : PySem.W.keepIn K (.ref f_law_roll) = true)
    (a_law_pick : PySem.W.nsIn K mainGlobals "_law_pick" = some (some (.ref f_law_pick))) (l_law_pick : K.lookup f_law_pick = some ⟨oc_law_pick, od_law_pick, .func (PySem.W.fnOf "_law_pick" "_law_pick" (defArgs K13.s__law_pick) (defBody K13.s__law_pick) (defScope K13.s__law_pick) .none kV_law_pick dc_law_pick pm_law_pick an_law_pick cd_law_pick ct_law_pick), sl_law_pick⟩) (c_law_pick : PySem.W.codeIn K cd_law_pick "_law_pick" = true) (k_law_pick : PySem.W.keepIn K (.ref f_law_pick) = true)
    (a_law_mixed : PySem.W.nsIn K mainGlobals "_law_mixed" = some (some (.ref f_law_mixed))) (l_law_mixed : K.lookup f_law_mixed = some ⟨oc_law_mixed, od_law_mixed, .func (PySem.W.fnOf "_law_mixed" "_law_mixed" (defArgs K13.s__law_mixed) (defBody K13.s__law_mixed) (defScope K13.s__law_mixed) .none kV_law_mixed dc_law_mixed pm_law_mixed an_law_mixed cd_law_mixed ct_law_mixed), sl_law_mixed⟩) (c_law_mixed : PySem.W.codeIn K cd_law_mixed "_law_mixed" = true) (k_law_mixed : PySem.W.keepIn K (.ref f_law_mixed) = true)
    (a_law_text : PySem.W.nsIn K mainGlobals "_law_text" = some (some (.ref f_law_text))) (l_law_text : K.lookup f_law_text = some ⟨oc_law_text, od_law_text, .func (PySem.W.fnOf "_law_text" "_law_text" (defArgs K13.s__law_text) (defBody K13.s__law_text) (defScope K13.s__law_text) .none kV_law_text dc_law_text pm_law_text an_law_text cd_law_text ct_law_text), sl_law_text⟩) (c_law_text : PySem.W.codeIn K cd_law_text "_law_text" = true) (k_law_text : PySem.W.keepIn K (.ref f_law_text) = true)
    (a_law_pair : PySem.W.nsIn K mainGlobals "_law_pair" = some (some (.ref f_law_pair))) (l_law_pair : K.lookup f_law_pair = some ⟨oc_law_pair, od_law_pair, .func (PySem.W.fnOf "_law_pair" "_law_pair" (defArgs K13.s__law_pair) (defBody K13.s__law_pair) (defScope K13.s__law_pair) .none kV_law_pair dc_law_pair pm_law_pair an_law_pair cd_law_pair ct_law_pair), sl_law_pair⟩) (c_law_pair : PySem.W.codeIn K cd_law_pair "_law_pair" = true) (k_law_pair : PySem.W.keepIn K (.ref f_law_pair) = true)
    (a_law_fact_text : PySem.W.nsIn K mainGlobals "_law_fact_text" = some (some (.ref f_law_fact_text))) (l_law_fact_text : K.lookup f_law_fact_text = some ⟨oc_law_fact_text, od_law_fact_text, .func (PySem.W.fnOf "_law_fact_text" "_law_fact_text" (defArgs K13.s__law_fact_text) (defBody K13.s__law_fact_text) (defScope K13.s__law_fact_text) .none kV_law_fact_text dc_law_fact_text pm_law_fact_text an_law_fact_text cd_law_fact_text ct_law_fact_text), sl_law_fact_text⟩) (c_law_fact_text : PySem.W.codeIn K cd_law_fact_text "_law_fact_text" = true) (k_law_fact_text : PySem.W.keepIn K (.ref f_law_fact_text) = true)
    (a_law_names : PySem.W.nsIn K mainGlobals "_law_names" = some (some (.ref f_law_names))) (l_law_names : K.lookup f_law_names = some ⟨oc_law_names, od_law_names, .func (PySem.W.fnOf "_law_names" "_law_names" (defArgs K13.s__law_names) (defBody K13.s__law_names) (defScope K13.s__law_names) .none kV_law_names dc_law_names pm_law_names an_law_names cd_law_names ct_law_names), sl_law_names⟩) (c_law_names : PySem.W.codeIn K cd_law_names "_law_names" = true) (k_law_names : PySem.W.keepIn K (.ref f_law_names) = true)
    (a_law_term : PySem.W.nsIn K mainGlobals "_law_term" = some (some (.ref f_law_term))) (l_law_term : K.lookup f_law_term = some ⟨oc_law_term, od_law_term, .func (PySem.W.fnOf "_law_term" "_law_term" (defArgs K13.s__law_term) (defBody K13.s__law_term) (defScope K13.s__law_term) .none kV_law_term dc_law_term pm_law_term an_law_term cd_law_term ct_law_term), sl_law_term⟩) (c_law_term : PySem.W.codeIn K cd_law_term "_law_term" = true) (k_law_term : PySem.W.keepIn K (.ref f_law_term) = true)
    (a_law_drawn_pair : PySem.W.nsIn K mainGlobals "_law_drawn_pair" = some (some (.ref f_law_drawn_pair))) (l_law_drawn_pair : K.lookup f_law_drawn_pair = some ⟨oc_law_drawn_pair, od_law_drawn_pair, .func (PySem.W.fnOf "_law_drawn_pair" "_law_drawn_pair" (defArgs K13.s__law_drawn_pair) (defBody K13.s__law_drawn_pair) (defScope K13.s__law_drawn_pair) .none kV_law_drawn_pair dc_law_drawn_pair pm_law_drawn_pair an_law_drawn_pair cd_law_drawn_pair ct_law_drawn_pair), sl_law_drawn_pair⟩) (c_law_drawn_pair : PySem.W.codeIn K cd_law_drawn_pair "_law_drawn_pair" = true) (k_law_drawn_pair : PySem.W.keepIn K (.ref f_law_drawn_pair) = true)
    (a_law_drawn_fact : PySem.W.nsIn K mainGlobals "_law_drawn_fact" = some (some (.ref f_law_drawn_fact))) (l_law_drawn_fact : K.lookup f_law_drawn_fact = some ⟨oc_law_drawn_fact, od_law_drawn_fact, .func (PySem.W.fnOf "_law_drawn_fact" "_law_drawn_fact" (defArgs K13.s__law_drawn_fact) (defBody K13.s__law_drawn_fact) (defScope K13.s__law_drawn_fact) .none kV_law_drawn_fact dc_law_drawn_fact pm_law_drawn_fact an_law_drawn_fact cd_law_drawn_fact ct_law_drawn_fact), sl_law_drawn_fact⟩) (c_law_drawn_fact : PySem.W.codeIn K cd_law_drawn_fact "_law_drawn_fact" = true) (k_law_drawn_fact : PySem.W.keepIn K (.ref f_law_drawn_fact) = true)
    (a_law_read : PySem.W.nsIn K mainGlobals "_law_read" = some (some (.ref f_law_read))) (l_law_read : K.lookup f_law_read = some ⟨oc_law_read, od_law_read, .func (PySem.W.fnOf "_law_read" "_law_read" (defArgs K13.s__law_read) (defBody K13.s__law_read) (defScope K13.s__law_read) .none kV_law_read dc_law_read pm_law_read an_law_read cd_law_read ct_law_read), sl_law_read⟩) (c_law_read : PySem.W.codeIn K cd_law_read "_law_read" = true) (k_law_read : PySem.W.keepIn K (.ref f_law_read) = true)
    (a_law_term_read : PySem.W.nsIn K mainGlobals "_law_term_read" = some (some (.ref f_law_term_read))) (l_law_term_read : K.lookup f_law_term_read = some ⟨oc_law_term_read, od_law_term_read, .func (PySem.W.fnOf "_law_term_read" "_law_term_read" (defArgs K13.s__law_term_read) (defBody K13.s__law_term_read) (defScope K13.s__law_term_read) .none kV_law_term_read dc_law_term_read pm_law_term_read an_law_term_read cd_law_term_read ct_law_term_read), sl_law_term_read⟩) (c_law_term_read : PySem.W.codeIn K cd_law_term_read "_law_term_read" = true) (k_law_term_read : PySem.W.keepIn K (.ref f_law_term_read) = true)
    (a_law_pair_read : PySem.W.nsIn K mainGlobals "_law_pair_read" = some (some (.ref f_law_pair_read))) (l_law_pair_read : K.lookup f_law_pair_read = some ⟨oc_law_pair_read, od_law_pair_read, .func (PySem.W.fnOf "_law_pair_read" "_law_pair_read" (defArgs K13.s__law_pair_read) (defBody K13.s__law_pair_read) (defScope K13.s__law_pair_read) .none kV_law_pair_read dc_law_pair_read pm_law_pair_read an_law_pair_read cd_law_pair_read ct_law_pair_read), sl_law_pair_read⟩) (c_law_pair_read : PySem.W.codeIn K cd_law_pair_read "_law_pair_read" = true) (k_law_pair_read : PySem.W.keepIn K (.ref f_law_pair_read) = true)
    (a_law_count : PySem.W.nsIn K mainGlobals "_law_count" = some (some (.ref f_law_count))) (l_law_count : K.lookup f_law_count = some ⟨oc_law_count, od_law_count, .func (PySem.W.fnOf "_law_count" "_law_count" (defArgs K13.s__law_count) (defBody K13.s__law_count) (defScope K13.s__law_count) .none kV_law_count dc_law_count pm_law_count an_law_count cd_law_count ct_law_count), sl_law_count⟩) (c_law_count : PySem.W.codeIn K cd_law_count "_law_count" = true) (k_law_count : PySem.W.keepIn K (.ref f_law_count) = true)
    (a_law_due : PySem.W.nsIn K mainGlobals "_law_due" = some (some (.ref f_law_due))) (l_law_due : K.lookup f_law_due = some ⟨oc_law_due, od_law_due, .func (PySem.W.fnOf "_law_due" "_law_due" (defArgs K13.s__law_due) (defBody K13.s__law_due) (defScope K13.s__law_due) .none kV_law_due dc_law_due pm_law_due an_law_due cd_law_due ct_law_due), sl_law_due⟩) (c_law_due : PySem.W.codeIn K cd_law_due "_law_due" = true) (k_law_due : PySem.W.keepIn K (.ref f_law_due) = true)
    (a_law_spoilt : PySem.W.nsIn K mainGlobals "_law_spoilt" = some (some (.ref f_law_spoilt))) (l_law_spoilt : K.lookup f_law_spoilt = some ⟨oc_law_spoilt, od_law_spoilt, .func (PySem.W.fnOf "_law_spoilt" "_law_spoilt" (defArgs K13.s__law_spoilt) (defBody K13.s__law_spoilt) (defScope K13.s__law_spoilt) .none kV_law_spoilt dc_law_spoilt pm_law_spoilt an_law_spoilt cd_law_spoilt ct_law_spoilt), sl_law_spoilt⟩) (c_law_spoilt : PySem.W.codeIn K cd_law_spoilt "_law_spoilt" = true) (k_law_spoilt : PySem.W.keepIn K (.ref f_law_spoilt) = true)
    (alaw : PySem.W.nsIn K mainGlobals "law" = some (some (.ref flaw))) (llaw : K.lookup flaw = some ⟨oclaw, odlaw, .func (PySem.W.fnOf "law" "law" (defArgs K13.s_law) (defBody K13.s_law) (defScope K13.s_law) .none kVlaw dclaw pmlaw anlaw cdlaw ctlaw), sllaw⟩) (claw : PySem.W.codeIn K cdlaw "law" = true) (klaw : PySem.W.keepIn K (.ref flaw) = true)
    (zabs : PySem.W.nsIn K mainGlobals "abs" = some none)
    (zall : PySem.W.nsIn K mainGlobals "all" = some none)
    (zint : PySem.W.nsIn K mainGlobals "int" = some none)
    (zisinstance : PySem.W.nsIn K mainGlobals "isinstance" = some none)
    (zlen : PySem.W.nsIn K mainGlobals "len" = some none)
    (zlist : PySem.W.nsIn K mainGlobals "list" = some none)
    (zmax : PySem.W.nsIn K mainGlobals "max" = some none)
    (zmin : PySem.W.nsIn K mainGlobals "min" = some none)
    (zrange : PySem.W.nsIn K mainGlobals "range" = some none)
    (zrepr : PySem.W.nsIn K mainGlobals "repr" = some none)
    (zsorted : PySem.W.nsIn K mainGlobals "sorted" = some none)
    (zstr : PySem.W.nsIn K mainGlobals "str" = some none)
    (ztuple : PySem.W.nsIn K mainGlobals "tuple" = some none)
    (zzip : PySem.W.nsIn K mainGlobals "zip" = some none)
    {CParseError : Addr} (nParseError : PySem.W.nsIn K mainGlobals "ParseError" = some (some (.ref CParseError))) (xParseError : PySem.W.excIn K CParseError [.type "ValueError", .type "Exception", .type "BaseException", .type "object"] "ValueError.__new__" = true) (kParseError : PySem.W.keepIn K (.ref CParseError) = true) (bParseError : PySem.W.subIn K (.ref CParseError) (.type "BaseException") = some true) (tParseError : PySem.W.typeIn K (.ref CParseError) = some (.type "type")) (iParseError : PySem.W.isClsIn K CParseError = true) (sParseError : PySem.W.subIn K (.ref CParseError) (.ref CParseError) = some true)
    {CInvalidFact : Addr} (nInvalidFact : PySem.W.nsIn K mainGlobals "InvalidFact" = some (some (.ref CInvalidFact))) (xInvalidFact : PySem.W.excIn K CInvalidFact [.type "ValueError", .type "Exception", .type "BaseException", .type "object"] "ValueError.__new__" = true) (kInvalidFact : PySem.W.keepIn K (.ref CInvalidFact) = true) (bInvalidFact : PySem.W.subIn K (.ref CInvalidFact) (.type "BaseException") = some true) (tInvalidFact : PySem.W.typeIn K (.ref CInvalidFact) = some (.type "type")) (iInvalidFact : PySem.W.isClsIn K CInvalidFact = true) (sInvalidFact : PySem.W.subIn K (.ref CInvalidFact) (.ref CInvalidFact) = some true)
    {tMAX_PLACES : Tok} (zMAX_PLACES : PySem.W.nsIn K mainGlobals "MAX_PLACES" = some (some (.int 3 tMAX_PLACES)))
    {tLONGEST_NAME : Tok} (zLONGEST_NAME : PySem.W.nsIn K mainGlobals "LONGEST_NAME" = some (some (.int 8 tLONGEST_NAME)))
    : ∃ T : K13.Tx K mg, T.alaw = flaw ∧ T.dlaw = PySem.W.fnOf "law" "law" (defArgs K13.s_law) (defBody K13.s_law) (defScope K13.s_law) .none kVlaw dclaw pmlaw anlaw cdlaw ctlaw := by
  have Fwritten := fun_mk (st := K13.s_written) lwritten cwritten kwritten
  have Bwritten := Fwritten.binds (ps := ["term"]) fun _ _ _ _ _ _ us hl => match us, hl with | [_], _ => rfl
  have Fis_name := fun_mk (st := K13.s_is_name) lis_name cis_name kis_name
  have Bis_name := Fis_name.binds (ps := ["value"]) fun _ _ _ _ _ _ us hl => match us, hl with | [_], _ => rfl
  have Fis_term := fun_mk (st := K13.s_is_term) lis_term cis_term kis_term
  have Bis_term := Fis_term.binds (ps := ["value"]) fun _ _ _ _ _ _ us hl => match us, hl with | [_], _ => rfl
  have Fread_term := fun_mk (st := K13.s_read_term) lread_term cread_term kread_term
  have Bread_term := Fread_term.binds (ps := ["text"]) fun _ _ _ _ _ _ us hl => match us, hl with | [_], _ => rfl
  have Fjoint_places := fun_mk (st := K13.s_joint_places) ljoint_places cjoint_places kjoint_places
  have Bjoint_places := Fjoint_places.binds (ps := ["values"]) fun _ _ _ _ _ _ us hl => match us, hl with | [_], _ => rfl
  have Fhas_form := fun_mk (st := K13.s_has_form) lhas_form chas_form khas_form
  have Bhas_form := Fhas_form.binds (ps := ["value"]) fun _ _ _ _ _ _ us hl => match us, hl with | [_], _ => rfl
  have Fwords_in := fun_mk (st := K13.s_words_in) lwords_in cwords_in kwords_in
  have Bwords_in := Fwords_in.binds (ps := ["text"]) fun _ _ _ _ _ _ us hl => match us, hl with | [_], _ => rfl
  have Fparsed := fun_mk (st := K13.s_parsed) lparsed cparsed kparsed
  have Bparsed := Fparsed.binds (ps := ["words"]) fun _ _ _ _ _ _ us hl => match us, hl with | [_], _ => rfl
  have Fis_fact := fun_mk (st := K13.s_is_fact) lis_fact cis_fact kis_fact
  have Bis_fact := Fis_fact.binds (ps := ["value"]) fun _ _ _ _ _ _ us hl => match us, hl with | [_], _ => rfl
  have Ffact_text := fun_mk (st := K13.s_fact_text) lfact_text cfact_text kfact_text
  have Bfact_text := Ffact_text.binds (ps := ["fact"]) fun _ _ _ _ _ _ us hl => match us, hl with | [_], _ => rfl
  have Fread_fact := fun_mk (st := K13.s_read_fact) lread_fact cread_fact kread_fact
  have Bread_fact := Fread_fact.binds (ps := ["text"]) fun _ _ _ _ _ _ us hl => match us, hl with | [_], _ => rfl
  have Fcheck_fact := fun_mk (st := K13.s_check_fact) lcheck_fact ccheck_fact kcheck_fact
  have Bcheck_fact := Fcheck_fact.binds (ps := ["value"]) fun _ _ _ _ _ _ us hl => match us, hl with | [_], _ => rfl
  have Fis_couple := fun_mk (st := K13.s_is_couple) lis_couple cis_couple kis_couple
  have Bis_couple := Fis_couple.binds (ps := ["value"]) fun _ _ _ _ _ _ us hl => match us, hl with | [_], _ => rfl
  have Fare_couples := fun_mk (st := K13.s_are_couples) lare_couples care_couples kare_couples
  have Bare_couples := Fare_couples.binds (ps := ["values"]) fun _ _ _ _ _ _ us hl => match us, hl with | [_], _ => rfl
  have Fis_ordered := fun_mk (st := K13.s_is_ordered) lis_ordered cis_ordered kis_ordered
  have Bis_ordered := Fis_ordered.binds (ps := ["couple"]) fun _ _ _ _ _ _ us hl => match us, hl with | [_], _ => rfl
  have Fkey_of := fun_mk (st := K13.s_key_of) lkey_of ckey_of kkey_of
  have Bkey_of := Fkey_of.binds (ps := ["couple"]) fun _ _ _ _ _ _ us hl => match us, hl with | [_], _ => rfl
  have Fsides_of := fun_mk (st := K13.s_sides_of) lsides_of csides_of ksides_of
  have Bsides_of := Fsides_of.binds (ps := ["couples"]) fun _ _ _ _ _ _ us hl => match us, hl with | [_], _ => rfl
  have Fpairs_in := fun_mk (st := K13.s_pairs_in) lpairs_in cpairs_in kpairs_in
  have Bpairs_in := Fpairs_in.binds (ps := ["fact"]) fun _ _ _ _ _ _ us hl => match us, hl with | [_], _ => rfl
  have Fread_couple := fun_mk (st := K13.s_read_couple) lread_couple cread_couple kread_couple
  have Bread_couple := Fread_couple.binds (ps := ["text"]) fun _ _ _ _ _ _ us hl => match us, hl with | [_], _ => rfl
  have F_law_dice := fun_mk (st := K13.s__law_dice) l_law_dice c_law_dice k_law_dice
  have B_law_dice := F_law_dice.binds (ps := ["script", "spot"]) fun _ _ _ _ _ _ us hl => match us, hl with | [_, _], _ => rfl
  have F_law_roll := fun_mk (st := K13.s__law_roll) l_law_roll c_law_roll k_law_roll
  have B_law_roll := F_law_roll.binds (ps := ["dice", "top"]) fun _ _ _ _ _ _ us hl => match us, hl with | [_, _], _ => rfl
  have F_law_pick := fun_mk (st := K13.s__law_pick) l_law_pick c_law_pick k_law_pick
  have B_law_pick := F_law_pick.binds (ps := ["dice", "items"]) fun _ _ _ _ _ _ us hl => match us, hl with | [_, _], _ => rfl
  have F_law_mixed := fun_mk (st := K13.s__law_mixed) l_law_mixed c_law_mixed k_law_mixed
  have B_law_mixed := F_law_mixed.binds (ps := ["dice", "items"]) fun _ _ _ _ _ _ us hl => match us, hl with | [_, _], _ => rfl
  have F_law_text := fun_mk (st := K13.s__law_text) l_law_text c_law_text k_law_text
  have B_law_text := F_law_text.binds (ps := ["term"]) fun _ _ _ _ _ _ us hl => match us, hl with | [_], _ => rfl
  have F_law_pair := fun_mk (st := K13.s__law_pair) l_law_pair c_law_pair k_law_pair
  have B_law_pair := F_law_pair.binds (ps := ["one", "other"]) fun _ _ _ _ _ _ us hl => match us, hl with | [_, _], _ => rfl
  have F_law_fact_text := fun_mk (st := K13.s__law_fact_text) l_law_fact_text c_law_fact_text k_law_fact_text
  have B_law_fact_text := F_law_fact_text.binds (ps := ["fact"]) fun _ _ _ _ _ _ us hl => match us, hl with | [_], _ => rfl
  have F_law_names := fun_mk (st := K13.s__law_names) l_law_names c_law_names k_law_names
  have B_law_names := F_law_names.binds (ps := ["dice", "few"]) fun _ _ _ _ _ _ us hl => match us, hl with | [_, _], _ => rfl
  have F_law_term := fun_mk (st := K13.s__law_term) l_law_term c_law_term k_law_term
  have B_law_term := F_law_term.binds (ps := ["dice", "names", "deep"]) fun _ _ _ _ _ _ us hl => match us, hl with | [_, _, _], _ => rfl
  have F_law_drawn_pair := fun_mk (st := K13.s__law_drawn_pair) l_law_drawn_pair c_law_drawn_pair k_law_drawn_pair
  have B_law_drawn_pair := F_law_drawn_pair.binds (ps := ["dice", "names", "deep"]) fun _ _ _ _ _ _ us hl => match us, hl with | [_, _, _], _ => rfl
  have F_law_drawn_fact := fun_mk (st := K13.s__law_drawn_fact) l_law_drawn_fact c_law_drawn_fact k_law_drawn_fact
  have B_law_drawn_fact := F_law_drawn_fact.binds (ps := ["dice", "names", "deep", "most"]) fun _ _ _ _ _ _ us hl => match us, hl with | [_, _, _, _], _ => rfl
  have F_law_read := fun_mk (st := K13.s__law_read) l_law_read c_law_read k_law_read
  have B_law_read := F_law_read.binds (ps := ["text"]) fun _ _ _ _ _ _ us hl => match us, hl with | [_], _ => rfl
  have F_law_term_read := fun_mk (st := K13.s__law_term_read) l_law_term_read c_law_term_read k_law_term_read
  have B_law_term_read := F_law_term_read.binds (ps := ["text"]) fun _ _ _ _ _ _ us hl => match us, hl with | [_], _ => rfl
  have F_law_pair_read := fun_mk (st := K13.s__law_pair_read) l_law_pair_read c_law_pair_read k_law_pair_read
  have B_law_pair_read := F_law_pair_read.binds (ps := ["text"]) fun _ _ _ _ _ _ us hl => match us, hl with | [_], _ => rfl
  have F_law_count := fun_mk (st := K13.s__law_count) l_law_count c_law_count k_law_count
  have B_law_count := F_law_count.binds (ps := ["term", "counts"]) fun _ _ _ _ _ _ us hl => match us, hl with | [_, _], _ => rfl
  have F_law_due := fun_mk (st := K13.s__law_due) l_law_due c_law_due k_law_due
  have B_law_due := F_law_due.binds (ps := ["text"]) fun _ _ _ _ _ _ us hl => match us, hl with | [_], _ => rfl
  have F_law_spoilt := fun_mk (st := K13.s__law_spoilt) l_law_spoilt c_law_spoilt k_law_spoilt
  have B_law_spoilt := F_law_spoilt.binds (ps := ["dice", "text"]) fun _ _ _ _ _ _ us hl => match us, hl with | [_, _], _ => rfl
  have Flaw := fun_mk (st := K13.s_law) llaw claw klaw
  have Blaw := Flaw.binds (ps := ["script"]) fun _ _ _ _ _ _ us hl => match us, hl with | [_], _ => rfl
  exact ⟨{ b_abs := PySem.W.mg_none_of X G zabs, b_all := PySem.W.mg_none_of X G zall, b_int := PySem.W.mg_none_of X G zint, b_isinstance := PySem.W.mg_none_of X G zisinstance, b_len := PySem.W.mg_none_of X G zlen, b_list := PySem.W.mg_none_of X G zlist, b_max := PySem.W.mg_none_of X G zmax, b_min := PySem.W.mg_none_of X G zmin, b_range := PySem.W.mg_none_of X G zrange, b_repr := PySem.W.mg_none_of X G zrepr, b_sorted := PySem.W.mg_none_of X G zsorted, b_str := PySem.W.mg_none_of X G zstr, b_tuple := PySem.W.mg_none_of X G ztuple, b_zip := PySem.W.mg_none_of X G zzip, CParseError := CParseError, gParseError := PySem.W.mg_of X G nParseError, xParseError := xParseError, kParseError := kParseError, bParseError := bParseError, tParseError := tParseError, eParseError := Kx.exm_self bParseError iParseError tParseError sParseError, CInvalidFact := CInvalidFact, gInvalidFact := PySem.W.mg_of X G nInvalidFact, xInvalidFact := xInvalidFact, kInvalidFact := kInvalidFact, bInvalidFact := bInvalidFact, tInvalidFact := tInvalidFact, eInvalidFact := Kx.exm_self bInvalidFact iInvalidFact tInvalidFact sInvalidFact, c_MAX_PLACES := ⟨_, PySem.W.mg_of X G zMAX_PLACES⟩, c_LONGEST_NAME := ⟨_, PySem.W.mg_of X G zLONGEST_NAME⟩, awritten := fwritten, dwritten := _, fwritten := Fwritten, gwritten := PySem.W.mg_of X G awritten, nwritten := Bwritten, ais_name := fis_name, dis_name := _, fis_name := Fis_name, gis_name := PySem.W.mg_of X G ais_name, nis_name := Bis_name, ais_term := fis_term, dis_term := _, fis_term := Fis_term, gis_term := PySem.W.mg_of X G ais_term, nis_term := Bis_term, aread_term := fread_term, dread_term := _, fread_term := Fread_term, gread_term := PySem.W.mg_of X G aread_term, nread_term := Bread_term, ajoint_places := fjoint_places, djoint_places := _, fjoint_places := Fjoint_places, gjoint_places := PySem.W.mg_of X G ajoint_places, njoint_places := Bjoint_places, ahas_form := fhas_form, dhas_form := _, fhas_form := Fhas_form, ghas_form := PySem.W.mg_of X G ahas_form, nhas_form := Bhas_form, awords_in := fwords_in, dwords_in := _, fwords_in := Fwords_in, gwords_in := PySem.W.mg_of X G awords_in, nwords_in := Bwords_in, aparsed := fparsed, dparsed := _, fparsed := Fparsed, gparsed := PySem.W.mg_of X G aparsed, nparsed := Bparsed, ais_fact := fis_fact, dis_fact := _, fis_fact := Fis_fact, gis_fact := PySem.W.mg_of X G ais_fact, nis_fact := Bis_fact, afact_text := ffact_text, dfact_text := _, ffact_text := Ffact_text, gfact_text := PySem.W.mg_of X G afact_text, nfact_text := Bfact_text, aread_fact := fread_fact, dread_fact := _, fread_fact := Fread_fact, gread_fact := PySem.W.mg_of X G aread_fact, nread_fact := Bread_fact, acheck_fact := fcheck_fact, dcheck_fact := _, fcheck_fact := Fcheck_fact, gcheck_fact := PySem.W.mg_of X G acheck_fact, ncheck_fact := Bcheck_fact, ais_couple := fis_couple, dis_couple := _, fis_couple := Fis_couple, gis_couple := PySem.W.mg_of X G ais_couple, nis_couple := Bis_couple, aare_couples := fare_couples, dare_couples := _, fare_couples := Fare_couples, gare_couples := PySem.W.mg_of X G aare_couples, nare_couples := Bare_couples, ais_ordered := fis_ordered, dis_ordered := _, fis_ordered := Fis_ordered, gis_ordered := PySem.W.mg_of X G ais_ordered, nis_ordered := Bis_ordered, akey_of := fkey_of, dkey_of := _, fkey_of := Fkey_of, gkey_of := PySem.W.mg_of X G akey_of, nkey_of := Bkey_of, asides_of := fsides_of, dsides_of := _, fsides_of := Fsides_of, gsides_of := PySem.W.mg_of X G asides_of, nsides_of := Bsides_of, apairs_in := fpairs_in, dpairs_in := _, fpairs_in := Fpairs_in, gpairs_in := PySem.W.mg_of X G apairs_in, npairs_in := Bpairs_in, aread_couple := fread_couple, dread_couple := _, fread_couple := Fread_couple, gread_couple := PySem.W.mg_of X G aread_couple, nread_couple := Bread_couple, a_law_dice := f_law_dice, d_law_dice := _, f_law_dice := F_law_dice, g_law_dice := PySem.W.mg_of X G a_law_dice, n_law_dice := B_law_dice, a_law_roll := f_law_roll, d_law_roll := _, f_law_roll := F_law_roll, g_law_roll := PySem.W.mg_of X G a_law_roll, n_law_roll := B_law_roll, a_law_pick := f_law_pick, d_law_pick := _, f_law_pick := F_law_pick, g_law_pick := PySem.W.mg_of X G a_law_pick, n_law_pick := B_law_pick, a_law_mixed := f_law_mixed, d_law_mixed := _, f_law_mixed := F_law_mixed, g_law_mixed := PySem.W.mg_of X G a_law_mixed, n_law_mixed := B_law_mixed, a_law_text := f_law_text, d_law_text := _, f_law_text := F_law_text, g_law_text := PySem.W.mg_of X G a_law_text, n_law_text := B_law_text, a_law_pair := f_law_pair, d_law_pair := _, f_law_pair := F_law_pair, g_law_pair := PySem.W.mg_of X G a_law_pair, n_law_pair := B_law_pair, a_law_fact_text := f_law_fact_text, d_law_fact_text := _, f_law_fact_text := F_law_fact_text, g_law_fact_text := PySem.W.mg_of X G a_law_fact_text, n_law_fact_text := B_law_fact_text, a_law_names := f_law_names, d_law_names := _, f_law_names := F_law_names, g_law_names := PySem.W.mg_of X G a_law_names, n_law_names := B_law_names, a_law_term := f_law_term, d_law_term := _, f_law_term := F_law_term, g_law_term := PySem.W.mg_of X G a_law_term, n_law_term := B_law_term, a_law_drawn_pair := f_law_drawn_pair, d_law_drawn_pair := _, f_law_drawn_pair := F_law_drawn_pair, g_law_drawn_pair := PySem.W.mg_of X G a_law_drawn_pair, n_law_drawn_pair := B_law_drawn_pair, a_law_drawn_fact := f_law_drawn_fact, d_law_drawn_fact := _, f_law_drawn_fact := F_law_drawn_fact, g_law_drawn_fact := PySem.W.mg_of X G a_law_drawn_fact, n_law_drawn_fact := B_law_drawn_fact, a_law_read := f_law_read, d_law_read := _, f_law_read := F_law_read, g_law_read := PySem.W.mg_of X G a_law_read, n_law_read := B_law_read, a_law_term_read := f_law_term_read, d_law_term_read := _, f_law_term_read := F_law_term_read, g_law_term_read := PySem.W.mg_of X G a_law_term_read, n_law_term_read := B_law_term_read, a_law_pair_read := f_law_pair_read, d_law_pair_read := _, f_law_pair_read := F_law_pair_read, g_law_pair_read := PySem.W.mg_of X G a_law_pair_read, n_law_pair_read := B_law_pair_read, a_law_count := f_law_count, d_law_count := _, f_law_count := F_law_count, g_law_count := PySem.W.mg_of X G a_law_count, n_law_count := B_law_count, a_law_due := f_law_due, d_law_due := _, f_law_due := F_law_due, g_law_due := PySem.W.mg_of X G a_law_due, n_law_due := B_law_due, a_law_spoilt := f_law_spoilt, d_law_spoilt := _, f_law_spoilt := F_law_spoilt, g_law_spoilt := PySem.W.mg_of X G a_law_spoilt, n_law_spoilt := B_law_spoilt, alaw := flaw, dlaw := _, flaw := Flaw, glaw := PySem.W.mg_of X G alaw, nlaw := Blaw }, rfl, rfl⟩

namespace K13
theorem gOf {P : Program} {w : World} {K : PySem.W.Frag} {mg : Str → Option Value} {base : Heap} {k : Nat} {f : Addr} {fd : FuncData} {ps : List Str} {sp : Sp} (F : FnOk P w K mg base CX0 k f fd ps sp) : FnG P w K mg base k f fd ps sp :=
  ⟨F.len, fun A outer s H args us vs Q E _ hr e0 b r h => F.run A outer s H args us vs Q E hr e0 b r h⟩
theorem ends {P : Program} {w : World} {K : PySem.W.Frag} {mg : Str → Option Value} {fa flaw : Addr} {kV dc pm cd ct : Value} {an : Option Addr}
    (hT : ∃ T : Tx K mg, T.alaw = flaw ∧ T.dlaw = PySem.W.fnOf "law" "law" (defArgs s_law) (defBody s_law) (defScope s_law) .none kV dc pm an cd ct) (hmg : mg "law" = some (.ref fa)) :
    ∃ fd : FuncData, (∀ (s : Shared) (u : Value), BindsTo s fd ⟨[u], []⟩ [("script", u)]) ∧ ∀ base : Heap, K.In base → base.Ns mainGlobals mg → FnG P w K mg base 110 fa fd ["script"] (spLaw K) := by
  obtain ⟨T, e1, e2⟩ := hT
  have z := T.glaw
  rw [hmg] at z
  cases z
  exact ⟨T.dlaw, fun s u => by rw [e2]; exact .of_eq rfl, fun base _ _ => ok_law T⟩
theorem walk {l : PySem.W.OpenLaw} {q : Program} {loose : List Str} {XP : (Str → Option Value) → Heap → Prop} {YP : World → Heap → Prop} {d : DefRec} {K : Params → PySem.W.Frag} (hn : l.most = some 63) (hdf : d.params.defaults = [])
    (hY : ∀ (w : World) (h : Heap), YP w h → (K w.params).In h)
    (F : ∀ (w : World) (mg : Str → Option Value) (fa : Addr) (h : Heap), (K w.params).In h → h.Ns mainGlobals mg → mg d.name = some (.ref fa) →
      ∃ fd : FuncData, (∀ (s : Shared) (u : Value), BindsTo s fd ⟨[u], []⟩ [("script", u)]) ∧ ∀ base : Heap, (K w.params).In base → base.Ns mainGlobals mg → FnG l.prog w (K w.params) mg base 110 fa fd ["script"] (spLaw (K w.params))) :
    PySem.W.WalkO q loose XP YP l.row.toRowW d [] (fun f vs => PySem.call f vs) :=
  walk_ofG (n := 63) (k := 110) (x := "script") (sp := fun w => spLaw (K w.params)) hn (by decide) hdf ⟨rfl, by decide, by decide⟩ hY F fun _ _ a ns _ _ hS => ⟨a, ns, rfl, hS, fun _ => rfl⟩
end K13
open PySem PySem.W PyProof.Rows
set_option maxRecDepth 100000 in
set_option maxHeartbeats 0 in
theorem PySem.Challenge.cw_shownpart_k13_texts_of_facts_holds : PySem.Challenge.rw_shownpart_k13_texts_of_facts.Holds := by
  w_on; o_law; k_head; (case hw => w_witness2)
  k_fill
  refine K13.walk (l := PySem.Challenge.rw_shownpart_k13_texts_of_facts) rfl rfl (fun w h Y => PySem.W.kIn_of Y) ?F
  case F =>
    intro w mg fa h KX G hmg
    refine' K13.ends (K13.tx_mk KX G ?awritten ?lwritten ?cwritten ?kwritten ?ais_name ?lis_name ?cis_name ?kis_name ?ais_term ?lis_term ?cis_term ?kis_term ?aread_term ?lread_term ?cread_term ?kread_term ?ajoint_places ?ljoint_places ?cjoint_places ?kjoint_places ?ahas_form ?lhas_form ?chas_form ?khas_form ?awords_in ?lwords_in ?cwords_in ?kwords_in ?aparsed ?lparsed ?cparsed ?kparsed ?ais_fact ?lis_fact ?cis_fact ?kis_fact ?afact_text ?lfact_text ?cfact_text ?kfact_text ?aread_fact ?lread_fact ?cread_fact ?kread_fact ?acheck_fact ?lcheck_fact ?ccheck_fact ?kcheck_fact ?ais_couple ?lis_couple ?cis_couple ?kis_couple ?aare_couples ?lare_couples ?care_couples ?kare_couples ?ais_ordered ?lis_ordered ?cis_ordered ?kis_ordered ?akey_of ?lkey_of ?ckey_of ?kkey_of ?asides_of ?lsides_of ?csides_of ?ksides_of ?apairs_in ?lpairs_in ?cpairs_in ?kpairs_in ?aread_couple ?lread_couple ?cread_couple ?kread_couple ?a_law_dice ?l_law_dice ?c_law_dice ?k_law_dice ?a_law_roll ?l_law_roll ?c_law_roll ?k_law_roll ?a_law_pick ?l_law_pick ?c_law_pick ?k_law_pick ?a_law_mixed ?l_law_mixed ?c_law_mixed ?k_law_mixed ?a_law_text ?l_law_text ?c_law_text ?k_law_text ?a_law_pair ?l_law_pair ?c_law_pair ?k_law_pair ?a_law_fact_text ?l_law_fact_text ?c_law_fact_text ?k_law_fact_text ?a_law_names ?l_law_names ?c_law_names ?k_law_names ?a_law_term ?l_law_term ?c_law_term ?k_law_term ?a_law_drawn_pair ?l_law_drawn_pair ?c_law_drawn_pair ?k_law_drawn_pair ?a_law_drawn_fact ?l_law_drawn_fact ?c_law_drawn_fact ?k_law_drawn_fact ?a_law_read ?l_law_read ?c_law_read ?k_law_read ?a_law_term_read ?l_law_term_read ?c_law_term_read ?k_law_term_read ?a_law_pair_read ?l_law_pair_read ?c_law_pair_read ?k_law_pair_read ?a_law_count ?l_law_count ?c_law_count ?k_law_count ?a_law_due ?l_law_due ?c_law_due ?k_law_due ?a_law_spoilt ?l_law_spoilt ?c_law_spoilt ?k_law_spoilt ?alaw ?llaw ?claw ?klaw ?zabs ?zall ?zint ?zisinstance ?zlen ?zlist ?zmax ?zmin ?zrange ?zrepr ?zsorted ?zstr ?ztuple ?zzip ?nParseError ?xParseError ?kParseError ?bParseError ?tParseError ?iParseError ?sParseError ?nInvalidFact ?xInvalidFact ?kInvalidFact ?bInvalidFact ?tInvalidFact ?iInvalidFact ?sInvalidFact ?zMAX_PLACES ?zLONGEST_NAME) hmg
    (case awritten => k_is); (case lwritten => k_is); (case cwritten => k_is); (case kwritten => k_is); (case ais_name => k_is); (case lis_name => k_is); (case cis_name => k_is); (case kis_name => k_is)
    (case ais_term => k_is); (case lis_term => k_is); (case cis_term => k_is); (case kis_term => k_is); (case aread_term => k_is); (case lread_term => k_is); (case cread_term => k_is); (case kread_term => k_is)
    (case ajoint_places => k_is); (case ljoint_places => k_is); (case cjoint_places => k_is); (case kjoint_places => k_is); (case ahas_form => k_is); (case lhas_form => k_is); (case chas_form => k_is); (case khas_form => k_is)
    (case awords_in => k_is); (case lwords_in => k_is); (case cwords_in => k_is); (case kwords_in => k_is); (case aparsed => k_is); (case lparsed => k_is); (case cparsed => k_is); (case kparsed => k_is)
    (case ais_fact => k_is); (case lis_fact => k_is); (case cis_fact => k_is); (case kis_fact => k_is); (case afact_text => k_is); (case lfact_text => k_is); (case cfact_text => k_is); (case kfact_text => k_is)
    (case aread_fact => k_is); (case lread_fact => k_is); (case cread_fact => k_is); (case kread_fact => k_is); (case acheck_fact => k_is); (case lcheck_fact => k_is); (case ccheck_fact => k_is); (case kcheck_fact => k_is)
    (case ais_couple => k_is); (case lis_couple => k_is); (case cis_couple => k_is); (case kis_couple => k_is); (case aare_couples => k_is); (case lare_couples => k_is); (case care_couples => k_is); (case kare_couples => k_is)
    (case ais_ordered => k_is); (case lis_ordered => k_is); (case cis_ordered => k_is); (case kis_ordered => k_is); (case akey_of => k_is); (case lkey_of => k_is); (case ckey_of => k_is); (case kkey_of => k_is)
    (case asides_of => k_is); (case lsides_of => k_is); (case csides_of => k_is); (case ksides_of => k_is); (case apairs_in => k_is); (case lpairs_in => k_is); (case cpairs_in => k_is); (case kpairs_in => k_is)
    (case aread_couple => k_is); (case lread_couple => k_is); (case cread_couple => k_is); (case kread_couple => k_is); (case a_law_dice => k_is); (case l_law_dice => k_is); (case c_law_dice => k_is); (case k_law_dice => k_is)
    (case a_law_roll => k_is); (case l_law_roll => k_is); (case c_law_roll => k_is); (case k_law_roll => k_is); (case a_law_pick => k_is); (case l_law_pick => k_is); (case c_law_pick => k_is); (case k_law_pick => k_is)
    (case a_law_mixed => k_is); (case l_law_mixed => k_is); (case c_law_mixed => k_is); (case k_law_mixed => k_is); (case a_law_text => k_is); (case l_law_text => k_is); (case c_law_text => k_is); (case k_law_text => k_is)
    (case a_law_pair => k_is); (case l_law_pair => k_is); (case c_law_pair => k_is); (case k_law_pair => k_is); (case a_law_fact_text => k_is); (case l_law_fact_text => k_is); (case c_law_fact_text => k_is); (case k_law_fact_text => k_is)
    (case a_law_names => k_is); (case l_law_names => k_is); (case c_law_names => k_is); (case k_law_names => k_is); (case a_law_term => k_is); (case l_law_term => k_is); (case c_law_term => k_is); (case k_law_term => k_is)
    (case a_law_drawn_pair => k_is); (case l_law_drawn_pair => k_is); (case c_law_drawn_pair => k_is); (case k_law_drawn_pair => k_is); (case a_law_drawn_fact => k_is); (case l_law_drawn_fact => k_is); (case c_law_drawn_fact => k_is); (case k_law_drawn_fact => k_is)
    (case a_law_read => k_is); (case l_law_read => k_is); (case c_law_read => k_is); (case k_law_read => k_is); (case a_law_term_read => k_is); (case l_law_term_read => k_is); (case c_law_term_read => k_is); (case k_law_term_read => k_is)
    (case a_law_pair_read => k_is); (case l_law_pair_read => k_is); (case c_law_pair_read => k_is); (case k_law_pair_read => k_is); (case a_law_count => k_is); (case l_law_count => k_is); (case c_law_count => k_is); (case k_law_count => k_is)
    (case a_law_due => k_is); (case l_law_due => k_is); (case c_law_due => k_is); (case k_law_due => k_is); (case a_law_spoilt => k_is); (case l_law_spoilt => k_is); (case c_law_spoilt => k_is); (case k_law_spoilt => k_is)
    (case alaw => k_is); (case llaw => k_is); (case claw => k_is); (case klaw => k_is); (case zabs => k_is); (case zall => k_is); (case zint => k_is); (case zisinstance => k_is)
    (case zlen => k_is); (case zlist => k_is); (case zmax => k_is); (case zmin => k_is); (case zrange => k_is); (case zrepr => k_is); (case zsorted => k_is); (case zstr => k_is)
    (case ztuple => k_is); (case zzip => k_is); (case nParseError => k_is); (case xParseError => k_exc); (case kParseError => k_is); (case bParseError => k_is); (case tParseError => k_is); (case iParseError => k_is)
    (case sParseError => first | rfl | k_is); (case nInvalidFact => k_is); (case xInvalidFact => k_exc); (case kInvalidFact => k_is); (case bInvalidFact => k_is); (case tInvalidFact => k_is); (case iInvalidFact => k_is); (case sInvalidFact => first | rfl | k_is)
    (case zMAX_PLACES => k_is); (case zLONGEST_NAME => k_is)
