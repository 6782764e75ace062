import PyProof.Rows.All
import Wide.All
import OpenK.AllK
import Wide.FinOn
import HandS.ForMost
import HandS.TupSets
import HandS.Strs
import KE.SortData
import HandS.IsInst
import HandS.SetKeys
import HandS.StrMore
import HandS.Star
import HandS.TupAny
import HandS.Wide
import HandS.Style
import HandS.Codes
import HandS.Text
import PyProof.DictMoreH
import HandS.TupLen
import HandS.Conv
import HandS.SetBool
import HandS.ReplaceLit
import HandS.ReplaceDef
import HandS.WordsExc
import HandS.TryOnly
import HandS.NoneIn
import HandS.Walk
import HandS.More
import KE.LtData
import KE.DataCmp
import HandS.SetFor
import HandS.Lambda
import HandS.TryMany
import HandS.ExcIs
import HandS.Small
import KE.KParD
import HandS.ExcValue
import HandS.EndTab
import KE.KNestM
import PySem.Challenge.RW_shownpart_k14_fact_errors
set_option Elab.async false
set_option linter.all false
set_option maxRecDepth 100000
set_option maxHeartbeats 4000000
/-! Sets of tuples whose items are ints or texts: made from a list, and counted. -/
namespace Kx
open PySem PySem.Spec PyProof.Rows L2

/-- the tuple at b holds the keys k -/
def TupK (P : Program) (w : World) (h : Heap) (k : List Key) (b : Addr) : Prop := IsTupleKey (mixKind P w) h k b
def hsK (P : Program) (w : World) (k : List Key) : Int := tupleKeyHash (mixKind P w) k
abbrev Row := Addr × List Key
def rowsK (P : Program) (w : World) (L : List Row) : List (Int × Value) := L.map fun p => (hsK P w p.2, Value.ref p.1)
def keysK (L : List Row) : List (List Key) := L.map Prod.snd

/-- the c-th step of the way of h -/
def stp (t : SetTable) (h : Int) (c : Nat) : SetTable.Probe := nth t.mask (runAt t.mask (SetTable.bits h % (t.mask + 1)) (SetTable.bits h)) c
theorem stp_j (t : SetTable) (h : Int) (c : Nat) : (stp t h c).j = way t.mask h c := rfl
theorem stp_add (t : SetTable) (h : Int) (c q : Nat) : nth t.mask (stp t h c) q = stp t h (c + q) := (nth_add t.mask c _ q).symm
theorem nth_nodummy (m : Nat) : ∀ (n : Nat) (p : SetTable.Probe), p.dummy = none → (nth m p n).dummy = none := by
  intro n
  induction n with
  | zero => exact fun p h => h
  | succ n ih =>
    intro p h
    apply ih (adv m p)
    show (adv m p).dummy = none
    simp only [adv]
    split <;> exact h
theorem stp_nodummy (t : SetTable) (h : Int) (c : Nat) : (stp t h c).dummy = none := nth_nodummy _ c _ rfl

section
variable {P : Program} {w : World} {A : Around} {E : Value → Shared → Prop} {s : Shared}

theorem items_plain {k : List Key} {vs : List Value} (h : ItemsAre (mixKind P w) k vs) :
    ∀ v, v ∈ vs → (∃ i t, v = Value.int i t) ∨ ∃ x t, v = Value.str x t := by
  induction h with
  | nil => exact fun v hv => nomatch hv
  | cons h1 _ ih =>
    intro v hv
    rcases List.mem_cons.mp hv with e | hv
    · subst e
      rcases keyIs_shape h1 with ⟨i, t, _, e⟩ | ⟨x, t, _, e⟩
      · exact .inl ⟨i, t, e⟩
      · exact .inr ⟨x, t, e⟩
    · exact ih v hv
/-- a tuple of ints and texts is of no class statement -/
theorem ofClass_tupK {k : List Key} {b : Addr} {Q : Bool → Shared → Prop} (hk : TupK P w s.heap k b) (q : Q false s) :
    wpAny (model P w) A (ofAClassStatement 8 (.ref b)) Q E s := by
  have ty := IsTupleKey.typeIs hk
  obtain ⟨o, its, n, h1, _, h2, h3⟩ := hk
  have pl := items_plain h3
  unfold ofAClassStatement
  apply wpAny_bind (wpAny_typeOf ty _)
  dsimp only
  have tt : (("tuple" : String) == "tuple") = true := by decide
  rw [if_pos tt]
  try apply wpAny_bind (wpAny_pure _)
  simp only [Bool.not_true, Bool.false_eq_true, if_false]
  show wpAny _ _ (seqItems? (.ref b) >>= _) _ _ s
  apply wpAny_bind (wpAny_seqItems h1 h2 _)
  dsimp only
  apply wpAny_bind
  show wpAny _ _ (forIn its _ _) _ _ s
  rw [← Array.forIn_toList]
  apply wpAny_forIn_list _ (fun rest r s' => r.1 = none ∧ s' = s ∧ ∀ v, v ∈ rest → (∃ i t, v = Value.int i t) ∨ ∃ x t, v = Value.str x t) _ _ _ _ _ ⟨rfl, rfl, pl⟩
  · rintro v rest r s' ⟨hr, rfl, hall⟩
    have e0 : ofAClassStatement 7 v = pure false := by
      rcases hall v List.mem_cons_self with ⟨i, t, rfl⟩ | ⟨x, t, rfl⟩ <;> rfl
    rw [e0]
    apply wpAny_bind (wpAny_pure _)
    simp only [Bool.false_eq_true, if_false]
    exact wpAny_pure ⟨rfl, rfl, fun u hu => hall u (List.mem_cons_of_mem _ hu)⟩
  · rintro ⟨r1, r2⟩ s' ⟨hr, rfl, _⟩
    cases hr
    exact wpAny_pure q
/-- whatever is said of a tuple's hash: a Bool, and the state stays -/
theorem byValue_tupK {k : List Key} {b : Addr} {Q : Bool → Shared → Prop} (hk : TupK P w s.heap k b) (q : ∀ c, Q c s) :
    wpAny (model P w) A (hashByValue 8 (.ref b)) Q E s := by
  have ty := IsTupleKey.typeIs hk
  obtain ⟨o, its, n, h1, _, h2, h3⟩ := hk
  have pl := items_plain h3
  unfold hashByValue
  apply wpAny_bind (wpAny_specialOf ty F.slot_tuple_hash.lookup _)
  show wpAny _ _ (seqItems? (.ref b) >>= _) _ _ s
  apply wpAny_bind (wpAny_seqItems h1 h2 _)
  apply wpAny_bind
  show wpAny _ _ (forIn its _ _) _ _ s
  rw [← Array.forIn_toList]
  apply wpAny_forIn_list _ (fun rest r s' => s' = s ∧ ∀ v, v ∈ rest → (∃ i t, v = Value.int i t) ∨ ∃ x t, v = Value.str x t) _ _ _ _ _ ⟨rfl, pl⟩
  · rintro v rest r s' ⟨rfl, hall⟩
    have tl : ∀ v, v ∈ rest → (∃ i t, v = Value.int i t) ∨ ∃ x t, v = Value.str x t := fun u hu => hall u (List.mem_cons_of_mem _ hu)
    have e0 : ∃ c, hashByValue 7 v = pure c := by
      rcases hall v List.mem_cons_self with ⟨i, t, rfl⟩ | ⟨x, t, rfl⟩
      · exact ⟨true, rfl⟩
      · exact ⟨false, rfl⟩
    obtain ⟨c, e0⟩ := e0
    rw [e0]
    apply wpAny_bind (wpAny_pure _)
    cases c
    · simp only [Bool.not_false, if_true]
      exact wpAny_pure (wpAny_pure (q _))
    · simp only [Bool.not_true, Bool.false_eq_true, if_false]
      exact wpAny_pure ⟨rfl, tl⟩
  · rintro ⟨r1, r2⟩ s' ⟨rfl, _⟩
    cases r1
    · exact wpAny_pure (q _)
    · exact wpAny_pure (q _)
/-- a search among such tuples shows nothing -/
theorem unseen_tupK {k : List Key} {b : Addr} {Q : Bool → Shared → Prop} (hk : TupK P w s.heap k b) {ys : List Value}
    (hy : ∀ y, y ∈ ys → ∃ k' c, y = Value.ref c ∧ TupK P w s.heap k' c) (q : Q false s) : wpAny (model P w) A (searchCouldBeSeen (.ref b) ys) Q E s := by
  unfold searchCouldBeSeen
  apply wpAny_bind
  apply wpAny_forIn_list _ (fun rest r s' => r.1 = none ∧ s' = s ∧ ∀ y, y ∈ rest → ∃ k' c, y = Value.ref c ∧ TupK P w s.heap k' c) _ _ _ _ _ ⟨rfl, rfl, hy⟩
  · rintro v rest r s' ⟨hr, rfl, hall⟩
    obtain ⟨k', c, rfl, hc⟩ := hall v List.mem_cons_self
    have tl : ∀ y, y ∈ rest → ∃ k' c, y = Value.ref c ∧ TupK P w s'.heap k' c := fun u hu => hall u (List.mem_cons_of_mem _ hu)
    have fin : wpAny (model P w) A (pure (ForInStep.yield r)) (fun x s1 => match x with
      | .yield b' => b'.1 = none ∧ s1 = s' ∧ ∀ y, y ∈ rest → ∃ k' c, y = Value.ref c ∧ TupK P w s'.heap k' c
      | .done _ => False) E s' := wpAny_pure ⟨hr, rfl, tl⟩
    dsimp only
    by_cases hv : (b == c || (carriedByValue (.ref b) && carriedByValue (.ref c))) = true
    · exact wp_if_pos hv (wpAny_pure ⟨rfl, rfl, tl⟩)
    · apply wp_if_neg hv
      apply wpAny_bind (wpAny_eqIsQuiet_tuple hk _)
      simp only [Bool.not_true, Bool.false_eq_true, if_false]
      apply wpAny_bind (wpAny_eqIsQuiet_tuple hc _)
      simp only [Bool.not_true, Bool.false_eq_true, if_false]
      apply wpAny_bind (ofClass_tupK hk _)
      simp only [Bool.false_eq_true, if_false]
      apply wpAny_bind (ofClass_tupK hc _)
      simp only [Bool.false_eq_true, if_false]
      exact wpAny_pure ⟨rfl, rfl, tl⟩
  · rintro ⟨r1, r2⟩ s' ⟨hr, rfl, _⟩
    cases hr
    exact wpAny_pure q

/-- the set at a: its members, its table -/
structure SetK (P : Program) (w : World) (h : Heap) (a : Addr) (L : List Row) (es : Array (Int × Value)) (ep : Nat) (t : SetTable) : Prop where
  obj : ∃ o, h.get? a = some o ∧ o.ExactSet ∧ o.data = .set es ep t
  rws : es.toList = rowsK P w L
  tbl : TabOk t (L.map fun p => hsK P w p.2)
  uni : (keysK L).Nodup
  mem : ∀ p, p ∈ L → TupK P w h p.2 p.1
  rom : L.length * 5 < t.mask * 3
  low : L.length < 64
variable {a : Addr} {L : List Row} {es : Array (Int × Value)} {ep : Nat} {t : SetTable}
theorem rowsK_len {es : Array (Int × Value)} {L : List Row} (h : es.toList = rowsK P w L) : es.size = L.length := by
  have e : es.toList.length = (rowsK P w L).length := by rw [h]
  simpa [rowsK] using e
theorem rowsK_get {es : Array (Int × Value)} {L : List Row} (h : es.toList = rowsK P w L) {i : Nat} {p : Row} (hp : L[i]? = some p) : es[i]? = some (hsK P w p.2, Value.ref p.1) := by
  have e : es.toList[i]? = some (hsK P w p.2, Value.ref p.1) := by
    rw [h]
    simp [rowsK, hp]
  rwa [Array.getElem?_toList] at e
theorem fits_of {t : SetTable} {n m : Nat} (h1 : t.dummies = #[]) (h2 : t.place.size = n) (h3 : n ≤ t.mask) : t.fits n = true := by
  simp only [SetTable.fits, SetTable.fill, h1, h2]
  simp
  exact h3
theorem SetK.fit (R : SetK P w s.heap a L es ep t) : t.fits es.size = true := by
  have z := rowsK_len R.rws
  have y := R.tbl.sz
  have x := R.rom
  rw [List.length_map] at y
  exact fits_of (m := 0) R.tbl.dm (by omega) (by omega)
theorem SetK.stays (R : SetK P w s.heap a L es ep t) : ¬ t.gaveWay = true := by
  simp only [SetTable.gaveWay, mask_odd R.tbl.mok]
  decide

/-- a search, from the c-th step of the way on; K: the first empty slot -/
theorem searchK (R : SetK P w s.heap a L es ep t) {x : Addr} {k : List Key} (hx : TupK P w s.heap k x) (hu : A.units < cLine) {K : Nat} (hf : K < 10 * SetTable.turns t.mask)
    (hK : way t.mask (hsK P w k) K ∉ t.place.toList) (hb : ∀ c, c < K → way t.mask (hsK P w k) c ∈ t.place.toList) {Q : SetFound → Shared → Prop}
    (yes : k ∈ keysK L → Q (.there none) s) (no : k ∉ keysK L → Q (.free (way t.mask (hsK P w k) K) false) s) :
    ∀ (f c : Nat) (st : Option SetTable.Probe), st.getD (t.probeStart (hsK P w k)) = stp t (hsK P w k) c → c ≤ K → K - c < f →
      (∀ (i : Nat) p, L[i]? = some p → p.2 = k → ∃ d, c ≤ d ∧ d < K ∧ t.place.toList[i]? = some (way t.mask (hsK P w k) d)) →
      wpAny (model P w) A (setSearchFrom a (.ref x) (hsK P w k) true f st) Q E s := by
  intro f
  induction f with
  | zero => exact fun c st _ _ h => absurd h (Nat.not_lt_zero _)
  | succ f ih =>
  intro c st hst hc hlt hre
  obtain ⟨o, ho, hex, hd⟩ := R.obj
  generalize hH : hsK P w k = Z at *
  rw [setSearchFrom_succ]
  apply wpAny_bind (wpAny_setState_of ho hd R.fit _)
  dsimp only
  apply wp_if_neg R.stays
  try apply wpAny_bind (wpAny_pure _)
  have jw : ∀ q, (nth t.mask (stp t Z c) q).j = way t.mask Z (c + q) := fun q => by rw [stp_add, stp_j]
  have eK : c + (K - c) = K := by omega
  have at_ : ∀ (i : Nat) p, L[i]? = some p → (fun i => (es[i]?.map (·.1)).getD 0) i = hsK P w p.2 := fun i p hp => by
    simp only [rowsK_get R.rws hp, Option.map_some, Option.getD_some]
  rcases go_spec t R.tbl.ris R.tbl.dm (fun i => (es[i]?.map (·.1)).getD 0) Z (10 * SetTable.turns t.mask) (K - c) (stp t Z c) (stp_nodummy t Z c) (by omega)
      (fun q hq => by rw [jw]; exact hb _ (by omega)) (by rw [jw, eK]; exact hK) with ⟨q, i, hq, hi, hh, hno, hpr⟩ | ⟨hno, hpr⟩
  · -- a candidate at the (c + q)-th step
    rw [jw] at hi
    have pr : t.probe (fun i => (es[i]?.map (·.1)).getD 0) Z (st.getD (t.probeStart Z)) = some (.candidate (way t.mask Z (c + q)) i (stp t Z (c + (q + 1)))) := by
      rw [hst, ← jw, ← stp_add]
      exact hpr
    rw [pr]
    dsimp only
    have hil : i < L.length := by
      have h1 := (List.getElem?_eq_some_iff.mp hi).1
      have h2 := R.tbl.sz
      rw [List.length_map] at h2
      rw [Array.length_toList, h2] at h1
      exact h1
    obtain ⟨p, hp⟩ : ∃ p, L[i]? = some p := ⟨L[i], List.getElem?_eq_getElem hil⟩
    have pm : p ∈ L := List.mem_of_getElem? hp
    have pe := rowsK_get R.rws hp
    have sl : t.slot (way t.mask Z (c + q)) = .live i := slot_live R.tbl.ris hi
    have go : wpAny (model P w) A (searchRest a (.ref x) Z true f es t (way t.mask Z (c + q)) i (stp t Z (c + (q + 1)))) Q E s := by
      unfold searchRest
      rw [pe]
      dsimp only
      apply wpAny_bind (wpAny_holding (wpAny_eqBool_tuple hu (R.mem p pm) hx _))
      apply wpAny_bind (wpAny_setState_of ho hd R.fit _)
      dsimp only
      by_cases hpk : p.2 = k
      · exact wp_if_pos (by simp [hpk]) (wpAny_pure (yes (List.mem_map.mpr ⟨p, pm, hpk⟩)))
      · apply wp_if_neg (by simp [hpk])
        try apply wpAny_bind (wpAny_pure _)
        rw [sameMem]
        dsimp only
        simp only [if_true, sl, pe]
        apply wpAny_bind (wpAny_isSame_ref_self (wpAny_bind (wpAny_pure _)))
        simp only [if_true]
        apply wp_if_neg (by simp [hpk])
        apply ih (c + (q + 1)) _ rfl (by omega) (by omega)
        intro i0 p0 h0 hk0
        obtain ⟨d, d1, d2, d3⟩ := hre i0 p0 h0 hk0
        refine ⟨d, ?_, d2, d3⟩
        have z0 : hsK P w p0.2 = Z := by rw [hk0, hH]
        by_cases z : d < c + q
        · exact absurd ((at_ i0 p0 h0).trans z0) (hno (d - c) i0 (by omega) (by rw [jw, show c + (d - c) = d by omega]; exact d3))
        · by_cases y : d = c + q
          · subst y
            have s0 := slot_live R.tbl.ris d3
            rw [sl] at s0
            injection s0 with s0
            subst s0
            rw [hp] at h0
            exact absurd ((congrArg Prod.snd (Option.some.inj h0)).trans hk0) hpk
          · omega
    by_cases hl : t.led = true
    · apply wp_if_neg (by simp [hl])
      try apply wpAny_bind (wpAny_pure _)
      exact go
    · apply wp_if_pos (by simp [hl])
      apply wpAny_bind (unseen_tupK hx _ _)
      · intro y hy
        obtain ⟨e, he, rfl⟩ := List.mem_map.mp hy
        have he2 : e ∈ es.toList := by simpa using (by simpa using he : e ∈ es ∧ e.1 = Z).1
        rw [R.rws] at he2
        obtain ⟨p2, hp2, rfl⟩ := List.mem_map.mp he2
        exact ⟨p2.2, p2.1, rfl, R.mem p2 hp2⟩
      · apply wp_if_neg (by decide)
        try apply wpAny_bind (wpAny_pure _)
        exact go
  · -- the empty slot
    have pr : t.probe (fun i => (es[i]?.map (·.1)).getD 0) Z (st.getD (t.probeStart Z)) = some (.empty (way t.mask Z K) none) := by
      have e2 : (nth t.mask (stp t Z c) (K - c)).j = way t.mask Z K := by rw [jw, eK]
      rw [hst, ← e2]
      exact hpr
    rw [pr]
    dsimp only
    apply wpAny_pure (no _)
    intro hm
    obtain ⟨p0, h0, hk0⟩ := List.mem_map.mp hm
    obtain ⟨i0, hi0⟩ := List.mem_iff_getElem?.mp h0
    obtain ⟨d, d1, d2, d3⟩ := hre i0 p0 hi0 hk0
    exact hno (d - c) i0 (by omega) (by rw [jw, show c + (d - c) = d by omega]; exact d3) ((at_ i0 p0 hi0).trans (by rw [show p0.2 = k from hk0, hH]))
/-- the search that adding asks for -/
theorem searchK0 (R : SetK P w s.heap a L es ep t) {x : Addr} {k : List Key} (hx : TupK P w s.heap k x) (hu : A.units < cLine) {Q : SetFound → Shared → Prop}
    (yes : k ∈ keysK L → Q (.there none) s)
    (no : ∀ K, k ∉ keysK L → way t.mask (hsK P w k) K ∉ t.place.toList → (∀ c, c < K → way t.mask (hsK P w k) c ∈ t.place.toList) → Q (.free (way t.mask (hsK P w k) K) false) s) :
    wpAny (model P w) A (setSearch a (.ref x) (hsK P w k) true) Q E s := by
  have rm := R.rom
  obtain ⟨K, hf, hK, hb⟩ := R.tbl.first (by rw [List.length_map]; omega) (hsK P w k)
  have big : K < 100000 := by
    refine Nat.lt_trans hf ?_
    unfold SetTable.turns
    rcases R.tbl.mok with e | e | e <;> rw [e] <;> decide
  unfold setSearch
  apply searchK R hx hu hf hK hb yes (fun hn => no K hn hK hb) 100000 0 none rfl (Nat.zero_le _) (by omega)
  intro i p hp hk
  have hl : i < t.place.toList.length := by
    have h1 := (List.getElem?_eq_some_iff.mp hp).1
    have h2 := R.tbl.sz
    rw [List.length_map] at h2
    rw [Array.length_toList]
    omega
  have hj := List.getElem?_eq_getElem hl
  have hi : (L.map fun p => hsK P w p.2)[i]? = some (hsK P w k) := by simp [hp, hk]
  obtain ⟨c, hc, e⟩ := R.tbl.before hK hi hj
  exact ⟨c, Nat.zero_le _, hc, by rw [hj, e]⟩

/-- a tuple stands while the set changes -/
theorem TupK.but {h h' : Heap} {k : List Key} {a b : Addr} {o : Obj} {es : Array (Int × Value)} {ep : Nat} {t : SetTable} (hb : TupK P w h k b) (ho : h.get? a = some o) (hd : o.data = .set es ep t) (hs : Heap.SameBut a h h') : TupK P w h' k b := by
  obtain ⟨u, its, n, h1, h2, h3, h4⟩ := hb
  have ne : b ≠ a := fun e => by
    subst e
    rw [h1] at ho
    cases ho
    rw [h3] at hd
    cases hd
  exact ⟨u, its, n, (hs.2 b ne).trans h1, h2, h3, h4⟩
theorem TupK.kept {h h' : Heap} {k : List Key} {b : Addr} (x : TupK P w h k b) (hk : ∀ c o, h.get? c = some o → h'.get? c = some o) : TupK P w h' k b := by
  obtain ⟨u, its, n, h1, r⟩ := x
  exact ⟨u, its, n, hk _ _ h1, r⟩
theorem ins_perm {α : Type} (L : List α) (p : Nat) (x : α) : (L.take p ++ x :: L.drop p).Perm (x :: L) :=
  List.perm_middle.trans (by rw [List.take_append_drop])
theorem range_get {α : Type} (L : List α) : (List.range L.length).filterMap (fun i => L[i]?) = L := by
  have key : ∀ n, n ≤ L.length → (List.range n).filterMap (fun i => L[i]?) = L.take n := by
    intro n
    induction n with
    | zero => exact fun _ => rfl
    | succ n ih =>
      intro hn
      have e := List.getElem?_eq_getElem (show n < L.length from hn)
      rw [List.range_succ, List.filterMap_append, ih (by omega), List.take_succ, e]
      simp [e]
  rw [key _ (Nat.le_refl _), List.take_length]
/-- the rows in another order -/
theorem rows_order (L : List Row) (es : Array (Int × Value)) (ord : Array Nat) (hr : es.toList = rowsK P w L) (hp : ord.toList.Perm (List.range L.length)) :
    ∃ L2, (ord.filterMap (es[·]?)).toList = rowsK P w L2 ∧ L2.Perm L ∧ (L2.map fun p => hsK P w p.2) = ord.toList.map fun i => (es.map (·.1)).getD i 0 := by
  have sz := rowsK_len hr
  have key : ∀ l : List Nat, (∀ i, i ∈ l → i < L.length) → l.filterMap (fun i => es[i]?) = rowsK P w (l.filterMap fun i => L[i]?) ∧
      ((l.filterMap fun i => L[i]?).map fun p => hsK P w p.2) = l.map fun i => (es.map (·.1)).getD i 0 := by
    intro l
    induction l with
    | nil => exact fun _ => ⟨rfl, rfl⟩
    | cons i l ih =>
      intro hl
      have hi := List.getElem?_eq_getElem (hl i List.mem_cons_self)
      obtain ⟨e1, e2⟩ := ih fun j hj => hl j (List.mem_cons_of_mem _ hj)
      have ee := rowsK_get hr hi
      constructor
      · rw [List.filterMap_cons_some ee, List.filterMap_cons_some hi, e1]
        rfl
      · rw [List.filterMap_cons_some hi, List.map_cons, List.map_cons, e2]
        have e3 : (es.map (·.1))[i]? = some (hsK P w (L[i]'(hl i List.mem_cons_self)).2) := by rw [Array.getElem?_map, ee]; rfl
        rw [show (es.map (·.1)).getD i 0 = hsK P w (L[i]'(hl i List.mem_cons_self)).2 by simp [Array.getD_eq_getD_getElem?, e3]]
  obtain ⟨e1, e2⟩ := key ord.toList fun i hi => List.mem_range.mp (hp.mem_iff.mp hi)
  refine ⟨ord.toList.filterMap fun i => L[i]?, ?_, ?_, e2⟩
  · rw [Array.toList_filterMap]
    exact e1
  · have z := hp.filterMap (fun i => L[i]?)
    rw [range_get] at z
    exact z

/-- the table laid anew -/
theorem relayK {o : Obj} (ho : s.heap.get? a = some o) (hex : o.ExactSet) (hd : o.data = .set es ep t) (hr : es.toList = rowsK P w L) (hsz : t.place.size = es.size) (hdm : t.dummies = #[]) (hfl : es.size ≤ t.mask)
    (uni : (keysK L).Nodup) (mem : ∀ p, p ∈ L → TupK P w s.heap p.2 p.1) (low : L.length < 64) {wn M : Nat}
    (hw : SetTable.sizeAbove wn - 1 = M) (hM : MaskOk M) (hw2 : SetTable.sizeAbove wn ≤ 128) (hn : L.length * 5 < M * 3) {Q : Unit → Shared → Prop}
    (q : ∀ h' L' es' ep' t', Heap.SameBut a s.heap h' → SetK P w h' a L' es' ep' t' → L'.Perm L → Q () { s with heap := h' }) : wpAny (model P w) A (setRelay a wn) Q E s := by
  have hsl := rowsK_len hr
  obtain ⟨t', ord, e, hp, T, em, _, _, _⟩ := relaid_ok t (hs := es.map (·.1)) (wanted := wn) hw hM (by rw [Array.size_map, hsl]; omega)
  rw [Array.size_map, hsl] at hp
  obtain ⟨L2, r1, r2, r3⟩ := rows_order L es ord hr hp
  have hs2 : (ord.filterMap (es[·]?)).size = L.length := by rw [rowsK_len r1, r2.length_eq]
  rw [← r3] at T
  rw [setRelay_eq]
  apply wpAny_bind (wpAny_setState_of ho hd (fits_of (m := 0) hdm hsz hfl) _)
  dsimp only
  apply wp_if_neg (by rw [sizeLine_eq]; omega)
  try apply wpAny_bind (wpAny_pure _)
  rw [e]
  dsimp only
  apply wpAny_bind
  apply wp_if_neg (by rw [hs2, hsl]; simp)
  try apply wpAny_bind (wpAny_pure _)
  apply wpAny_pure
  dsimp only
  apply wpAny_storeSet_of ho hd _ (by rw [hs2, sizeLine_eq]; omega)
  have sb : Heap.SameBut a s.heap (s.heap.update a (Obj.putSet (ord.filterMap (es[·]?)) t')) := Heap.SameBut.update ..
  apply q _ L2 (ord.filterMap (es[·]?)) (ep + 1) t' sb _ r2
  exact ⟨⟨_, store_at ho hd, ⟨hex.1, hex.2.1, hex.2.2⟩, rfl⟩, r1, T, (r2.map Prod.snd).nodup_iff.mpr uni, fun p hpm => TupK.but (mem p (r2.mem_iff.mp hpm)) ho hd sb, by rw [r2.length_eq, em]; exact hn, by rw [r2.length_eq]; exact low⟩

/-- a member more -/
theorem addK (R : SetK P w s.heap a L es ep t) {x : Addr} {k : List Key} (hx : TupK P w s.heap k x) (hu : A.units < cLine) (few : k ∉ keysK L → L.length + 1 < 64) {Q : Bool → Shared → Prop}
    (q : ∀ b h' L' es' ep' t', Heap.SameBut a s.heap h' → SetK P w h' a L' es' ep' t' → (k ∈ keysK L → L' = L) → (k ∉ keysK L → L'.Perm ((x, k) :: L)) → Q b { s with heap := h' }) :
    wpAny (model P w) A (setAddHashed a (.ref x) (hsK P w k)) Q E s := by
  obtain ⟨o, ho, hex, hd⟩ := R.obj
  have hsl := rowsK_len R.rws
  have rm := R.rom
  unfold setAddHashed
  apply wpAny_holding
  rw [show (100000 : Nat) = 99999 + 1 from rfl, setAddHashedIn_succ]
  apply wpAny_bind (wpAny_setState_of ho hd R.fit _)
  dsimp only
  apply wp_if_neg (by simp [byScan, Value.scannable])
  try apply wpAny_bind (wpAny_pure _)
  apply wpAny_bind (searchK0 R hx hu _ _)
  · intro hm
    dsimp only
    exact wpAny_pure (q false s.heap L es ep t (Heap.SameBut.refl a s.heap) R (fun _ => rfl) fun z => absurd hm z)
  intro K hm hK hb
  have few := few hm
  dsimp only
  apply wpAny_bind (wpAny_setState_of ho hd R.fit _)
  dsimp only
  obtain ⟨q1, q2, q3, q4, _, _, _, _, q9⟩ := R.tbl.put hK hb
  generalize hpt : t.put (way t.mask (hsK P w k) K) = pt at q1 q3 q4 q9 ⊢
  obtain ⟨t1, p⟩ := pt
  dsimp only at q1 q3 q4 q9 ⊢
  subst q1
  generalize hpp : SetTable.below t.place (way t.mask (hsK P w k) K) = p at *
  have ins : (SetTable.insertAt es p (hsK P w k, Value.ref x)).toList = rowsK P w (L.take p ++ (x, k) :: L.drop p) := by
    rw [SetTable.toList_insertAt, R.rws]
    simp [rowsK]
  have pm := ins_perm L p (x, k)
  have len1 : (L.take p ++ (x, k) :: L.drop p).length = L.length + 1 := pm.length_eq
  have T1 : TabOk t1 ((L.take p ++ (x, k) :: L.drop p).map fun p => hsK P w p.2) := by
    have e : (L.take p ++ (x, k) :: L.drop p).map (fun p => hsK P w p.2) = (L.map fun p => hsK P w p.2).take p ++ hsK P w k :: (L.map fun p => hsK P w p.2).drop p := by simp
    rw [e]
    exact q3
  have uni1 : (keysK (L.take p ++ (x, k) :: L.drop p)).Nodup := (pm.map Prod.snd).nodup_iff.mpr (List.nodup_cons.mpr ⟨hm, R.uni⟩)
  have sz1 := rowsK_len ins
  rw [len1] at sz1
  generalize SetTable.insertAt es p (hsK P w k, Value.ref x) = es1 at *
  generalize L.take p ++ (x, k) :: L.drop p = L1 at *
  have main : ∀ t2 : SetTable, t2.place = t1.place → t2.dummies = t1.dummies → t2.mask = t1.mask → t2.fill = t1.fill →
      wpAny (model P w) A (do
        storeSet a es1 t2
        if !false && t2.tooFull then setRelay a (SetTable.grown (es.size + 1))
        return true) Q E s := by
    intro t2 f1 f2 f3 f4
    have T2 : TabOk t2 (L1.map fun p => hsK P w p.2) := by
      obtain ⟨a1, a2, a3, a4, a5, a6⟩ := T1
      exact ⟨by rw [f1]; exact a1, by rw [f2]; exact a2, by rw [f1]; exact a3, by rw [f3]; exact a4, by rw [f1, f3]; exact a5, by rw [f1, f3]; exact a6⟩
    apply wpAny_bind (wpAny_storeSet_of ho hd _ (by rw [sz1, sizeLine_eq]; omega))
    have sb : Heap.SameBut a s.heap (s.heap.update a (Obj.putSet es1 t2)) := Heap.SameBut.update ..
    have ho1 := store_at (es' := es1) (t' := t2) ho hd
    generalize s.heap.update a (Obj.putSet es1 t2) = h1 at sb ho1 ⊢
    have mem1 : ∀ p, p ∈ L1 → TupK P w h1 p.2 p.1 := fun p hp => by
      rcases List.mem_cons.mp (pm.mem_iff.mp hp) with e | hp
      · rw [e]; exact TupK.but hx ho hd sb
      · exact TupK.but (R.mem p hp) ho hd sb
    have fl : t2.tooFull = decide (t2.fill * 5 ≥ t2.mask * 3) := rfl
    rw [f4, q9, List.length_map] at fl
    by_cases hf : t2.tooFull = true
    · rw [hf]
      rw [hf] at fl
      have full : (L.length + 1) * 5 ≥ t2.mask * 3 := of_decide_eq_true fl.symm
      have two : (t2.mask = 7 ∧ L.length = 4) ∨ (t2.mask = 31 ∧ L.length = 18) := by
        rw [f3, q4] at full ⊢
        rcases R.tbl.mok with e | e | e <;> rw [e] at full rm ⊢ <;> omega
      have go : ∀ M, SetTable.sizeAbove (SetTable.grown (L.length + 1)) - 1 = M → MaskOk M → SetTable.sizeAbove (SetTable.grown (L.length + 1)) ≤ 128 → (L.length + 1) * 5 < M * 3 →
          wpAny (model P w) A (setRelay a (SetTable.grown (L.length + 1))) (fun _ s' => wpAny (model P w) A (pure true) Q E s') E { s with heap := h1 } := by
        intro M a1 a2 a3 a4
        apply relayK (s := { s with heap := h1 }) ho1 ⟨hex.1, hex.2.1, hex.2.2⟩ rfl ins (by rw [T2.sz, List.length_map, len1, sz1]) T2.dm (by rw [sz1]; rcases two with ⟨e, e2⟩ | ⟨e, e2⟩ <;> omega) uni1 mem1 (by rw [len1]; exact few) a1 a2 a3 (by rw [len1]; exact a4)
        intro h2 L2 es2 ep2 t3 sb2 R2 pm2
        exact wpAny_pure (q true h2 L2 es2 ep2 t3 (sb.trans sb2) R2 (fun z => absurd z hm) fun _ => pm2.trans pm)
      simp only [Bool.not_false, Bool.and_self, if_true]
      apply wpAny_bind
      rw [hsl]
      rcases two with ⟨_, e2⟩ | ⟨_, e2⟩
      · exact go 31 (by rw [e2, size_20]) (.inr (.inl rfl)) (by rw [e2, size_20]; decide) (by omega)
      · exact go 127 (by rw [e2, size_76]) (.inr (.inr rfl)) (by rw [e2, size_76]; decide) (by omega)
    · have hf' : t2.tooFull = false := by simpa using hf
      rw [hf']
      rw [hf'] at fl
      have nf : ¬ (L.length + 1) * 5 ≥ t2.mask * 3 := of_decide_eq_false fl.symm
      simp only [Bool.and_false, Bool.false_eq_true, if_false]
      try apply wpAny_bind (wpAny_pure _)
      exact wpAny_pure (q true h1 L1 es1 (ep + 1) t2 sb ⟨⟨_, ho1, ⟨hex.1, hex.2.1, hex.2.2⟩, rfl⟩, ins, T2, uni1, mem1, by rw [len1]; omega, by rw [len1]; exact few⟩ (fun z => absurd z hm) fun _ => pm)
  by_cases hp : t1.plain = true
  · first
      | apply wp_if_pos hp (wpAny_bind (byValue_tupK hx _))
      | (apply wpAny_bind; apply wp_if_pos hp (byValue_tupK hx _))
    intro c
    cases c
    · exact main { t1 with plain := false } rfl rfl rfl rfl
    · exact main t1 rfl rfl rfl rfl
  · first
      | apply wp_if_neg hp (wpAny_bind (wpAny_pure _))
      | (apply wpAny_bind; apply wp_if_neg hp (wpAny_pure _))
    exact main t1 rfl rfl rfl rfl

/-- what the set has got from the first i items -/
structure Had (ks : List Row) (i : Nat) (L : List Row) : Prop where
  sub : ∀ p, p ∈ L → p ∈ ks.take i
  all : ∀ p, p ∈ ks.take i → p.2 ∈ keysK L
  len : L.length ≤ i
theorem Had.nil (ks : List Row) : Had ks 0 [] := ⟨fun _ h => (nomatch h), fun _ h => (by simp at h), Nat.le_refl _⟩
theorem take_one {α : Type} {l : List α} {i : Nat} {x : α} (h : l[i]? = some x) : l.take (i + 1) = l.take i ++ [x] := by
  simp [List.take_succ, h]
theorem Had.next {ks L L' : List Row} {i : Nat} {x : Row} (g : Had ks i L) (h : ks[i]? = some x) (c1 : x.2 ∈ keysK L → L' = L) (c2 : x.2 ∉ keysK L → L'.Perm (x :: L)) : Had ks (i + 1) L' := by
  by_cases c : x.2 ∈ keysK L
  · rw [c1 c]
    refine ⟨fun p hp => ?_, fun p hp => ?_, Nat.le_succ_of_le g.len⟩
    · rw [take_one h]
      exact List.mem_append_left _ (g.sub p hp)
    · rw [take_one h, List.mem_append, List.mem_singleton] at hp
      rcases hp with z | z
      · exact g.all p z
      · rw [z]; exact c
  · have pm := c2 c
    refine ⟨fun p hp => ?_, fun p hp => ?_, by rw [pm.length_eq]; exact Nat.succ_le_succ g.len⟩
    · rw [take_one h]
      rcases List.mem_cons.mp (pm.mem_iff.mp hp) with e | z
      · exact List.mem_append_right _ (by rw [e]; exact List.mem_singleton.mpr rfl)
      · exact List.mem_append_left _ (g.sub p z)
    · rw [keysK, (pm.map Prod.snd).mem_iff, List.map_cons]
      rw [take_one h, List.mem_append, List.mem_singleton] at hp
      rcases hp with z | z
      · exact List.mem_cons_of_mem _ (g.all p z)
      · rw [z]; exact List.mem_cons_self
theorem SetK.moved {h h' : Heap} (R : SetK P w h a L es ep t) (ha : ∀ o, h.get? a = some o → h'.get? a = some o) (ht : ∀ p, p ∈ L → TupK P w h' p.2 p.1) : SetK P w h' a L es ep t := by
  obtain ⟨o, ho, r⟩ := R.obj
  exact ⟨⟨o, ha o ho, r⟩, R.rws, R.tbl, R.uni, ht, R.rom, R.low⟩
/-- a new set's object -/
def set0 (b : Bool) : Obj := { cls := .type "set", dict := none, data := .set #[] 0 (.fresh 0 0 b) }
theorem setK_new {h : Heap} {b : Bool} (ho : h.get? a = some (set0 b)) : SetK P w h a [] #[] 0 (.fresh 0 0 b) :=
  ⟨⟨_, ho, ⟨rfl, rfl, rfl⟩, rfl⟩, rfl, ⟨List.Pairwise.nil, rfl, rfl, .inl rfl, fun _ hx => (nomatch hx), fun i z j hi => (by simp at hi)⟩, List.nodup_nil, fun _ hp => (nomatch hp), (by decide : 0 * 5 < 7 * 3), (by decide : 0 < 64)⟩

/-- few different ones -/
def Few (ks : List Row) : Prop := ∀ D : List (List Key), D.Nodup → (∀ k, k ∈ D → k ∈ keysK ks) → D.length < 64
theorem nodup_le {α : Type} [DecidableEq α] : ∀ (l D : List α), D.Nodup → (∀ x, x ∈ D → x ∈ l) → D.length ≤ l.length
  | [], D, _, h => by
    have : D = [] := List.eq_nil_iff_forall_not_mem.mpr fun z hz => by simpa using h z hz
    rw [this]
    exact Nat.le_refl _
  | a :: r, D, nd, h => by
    by_cases aD : a ∈ D
    · have e := nodup_le r (D.erase a) (nd.erase a) fun z hz => by
        rw [nd.mem_erase_iff] at hz
        exact (List.mem_cons.mp (h z hz.2)).elim (fun e => absurd e hz.1) id
      rw [List.length_erase_of_mem aD] at e
      rw [List.length_cons]
      omega
    · have e := nodup_le r D nd fun z hz => (List.mem_cons.mp (h z hz)).elim (fun e => absurd (by rw [← e]; exact hz) aD) id
      rw [List.length_cons]
      omega
theorem few_of {ks : List Row} (h : ks.length < 64) : Few ks := fun D nd hD => by
  have e := nodup_le (keysK ks) D nd hD
  have : (keysK ks).length = ks.length := by simp [keysK]
  omega
/-- the loop of set.update over a list of tuples -/
theorem loopK {I : Addr} {fp wr : List Addr} {G : Array GenState → Array GenState → Prop} {n : Nat} {Pv : Nat → Value → Prop} {St : Nat → Shared → Prop} {R : Result → Shared → Prop}
    (W : WalksS P w A.in1 I fp wr G n Pv St) (S : Addr) (nS : S ∉ fp) (ks : List Row) (hn : n = ks.length) (few : Few ks) (val : ∀ i v, Pv i v → ∃ p, ks[i]? = some p ∧ v = .ref p.1)
    (g0 : Heap) (hk : ∀ p, p ∈ ks → TupK P w g0 p.2 p.1) (n0 : g0.get? S = none) (w0 : ∀ b, b ∈ wr → g0.get? b = none) (hu : A.in1.units < cLine) :
    ∀ (m i : Nat) (s : Shared), n - i = m → i ≤ n → St i s → (∀ b o, g0.get? b = some o → s.heap.get? b = some o) → (∃ L es ep t, SetK P w s.heap S L es ep t ∧ Had ks i L) →
      (∀ s' L es ep t, Moved (S :: wr) G s s' → SetK P w s'.heap S L es ep t → Had ks n L → (∀ b o, g0.get? b = some o → s'.heap.get? b = some o) → R (.ok (.ret .none)) s') →
      codeAny (model P w) A (.builtin "set.update.loop" ⟨[.ref S, .ref I], []⟩) R s := by
  have sw : S ∉ wr := fun h => nS (W.sub _ h)
  have up : ∀ b, b ∈ wr → b ∈ S :: wr := fun b hb => List.mem_cons_of_mem _ hb
  have kp : ∀ {s s' : Shared}, Moved wr G s s' → (∀ b o, g0.get? b = some o → s.heap.get? b = some o) → ∀ b o, g0.get? b = some o → s'.heap.get? b = some o := fun hm h b o e =>
    hm.heap b o (fun hb => by rw [w0 b hb] at e; cases e) (h b o e)
  intro m
  induction m with
  | zero =>
    intro i s hm hi hst hkp ⟨L, es, ep, t, hS, g⟩ hR
    obtain rfl : i = n := by omega
    apply codeAny_builtin F.entry_set_update_loop
    rw [Around.under_plainId F.plain_set_update_loop _]
    show wpAny _ A.in1 (pyNext (.ref I) >>= _) _ _ s
    apply wpAny_bind (W.done s _ _ hst _)
    intro s' mv
    show wpAny _ A.in1 (ret Value.none) _ _ s'
    have k2 := kp mv hkp
    exact wpAny_pure (hR s' L es ep t (mv.mono up) (hS.moved (fun o e => mv.heap S o sw e) fun p hp => TupK.kept (hk p (List.mem_of_mem_take (g.sub p hp))) k2) g k2)
  | succ m ih =>
    intro i s hm hi hst hkp ⟨L, es, ep, t, hS, g⟩ hR
    have lt : i < n := by omega
    apply codeAny_builtin F.entry_set_update_loop
    rw [Around.under_plainId F.plain_set_update_loop _]
    show wpAny _ A.in1 (pyNext (.ref I) >>= _) _ _ s
    apply wpAny_bind (W.item i s _ _ lt hst _)
    intro v s' hP hst' mv
    obtain ⟨p, hp, rfl⟩ := val i v hP
    have k2 := kp mv hkp
    have hS' : SetK P w s'.heap S L es ep t := hS.moved (fun o e => mv.heap S o sw e) fun q hq => TupK.kept (hk q (List.mem_of_mem_take (g.sub q hq))) k2
    have hx : TupK P w s'.heap p.2 p.1 := TupK.kept (hk p (List.mem_of_getElem? hp)) k2
    show wpAny _ A.in1 (holding [Value.ref p.1] (setAdd S (.ref p.1)) >>= _) _ _ s'
    apply wpAny_bind (wpAny_holding _)
    unfold setAdd
    apply wpAny_holding
    apply wpAny_bind (wpAny_pyHash_tuple hu hx _)
    apply addK (s := { s' with toks := s'.toks + (p.2.length + 1) }) hS' hx hu (fun nk => by
      have z := few (keysK L ++ [p.2]) (by
        rw [List.nodup_append]
        refine ⟨hS'.uni, by simp, fun a ha b hb => ?_⟩
        rw [List.mem_singleton.mp hb]
        rintro rfl
        exact nk ha) fun k hk2 => by
        rcases List.mem_append.mp hk2 with hk2 | hk2
        · obtain ⟨q, hq, rfl⟩ := List.mem_map.mp hk2
          exact List.mem_map.mpr ⟨q, List.mem_of_mem_take (g.sub q hq), rfl⟩
        · rw [List.mem_singleton.mp hk2]
          exact List.mem_map.mpr ⟨p, List.mem_of_getElem? hp, rfl⟩
      have zl : (keysK L).length = L.length := by simp [keysK]
      rw [List.length_append, zl] at z
      exact z)
    intro b h' L' es' ep' t' sb hS2 c1 c2
    have k3 : ∀ b o, g0.get? b = some o → h'.get? b = some o := fun b o e => (sb.2 b (fun z => by rw [z, n0] at e; cases e)).trans (k2 b o e)
    have fr := W.frame (i + 1) s' h' (s'.toks + (p.2.length + 1)) hst' (Nat.le_add_right _ _) fun b hb o e => by
      rw [sb.2 b (fun h : b = S => nS (by rw [← h]; exact hb))]; exact e
    apply wpAny_pure
    refine ⟨plainId_quiet F.plain_set_update_loop _, ih (i + 1) _ (by omega) lt fr k3 ⟨L', es', ep', t', hS2, g.next hp c1 c2⟩ fun s'' L2 es2 ep2 t2 mv2 hS3 g3 k4 => ?_⟩
    refine hR s'' L2 es2 ep2 t2 (Moved.trans W.gtrans ((mv.mono up).then_heap (Nat.le_add_right _ _) fun b o hb e => ?_) mv2) hS3 g3 k4
    rw [sb.2 b fun h => hb (by rw [h]; exact List.mem_cons_self)]
    exact e

/-- what the loop of set(xs) does -/
structure SetLoop (P : Program) (w : World) (A : Around) (s : Shared) (l : Addr) (Post : Heap → Prop) : Prop where
  run : ∀ (led : Bool) (R : Result → Shared → Prop), (w.params.followText "set-order" = true ∨ led = true) → (∀ h' tk, Post h' → (∀ b o, s.heap.get? b = some o → h'.get? b = some o) → R (.ok (.ret .none)) { s with heap := h', toks := tk }) →
    codeAny (model P w) A.in1.in1 (.builtin "set.update.loop" ⟨[.ref s.heap.objs.size, .ref (s.heap.push (set0 led)).objs.size], []⟩) R
      { s with heap := (s.heap.push (set0 led)).push { cls := .type "list_iterator", data := .fields #[.ref l, .int 0 0] } }
structure SetGoal (s : Shared) (Post : Heap → Prop) (Q : Value → Shared → Prop) : Prop where
  out : ∀ (h' : Heap) (tk : Nat), Post h' → (∀ b o, s.heap.get? b = some o → h'.get? b = some o) → Q (.ref s.heap.objs.size) { s with heap := h', toks := tk }
/-- set(xs), by what its loop does -/
theorem call_set_gen {l : Addr} {its : Array Value} (Post : Heap → Prop) {Q : Value → Shared → Prop} (hl : s.heap.IsList l its) (loop : SetLoop P w A s l Post) (q : SetGoal s Post Q) :
    wpAny (model P w) A (call (.type "set") [.ref l]) Q E s := by
  obtain ⟨c, tl, hmro⟩ := F.called_set.mro
  have y1 := F.called_set.made
  have y2 := F.called_set.sub
  apply wpAny_call (codeAny_of_tree _)
  show wpAny _ _ (callAny (.type "set") _) _ _ _
  apply wpAny_pure
  refine ⟨Code.quiet_builtin _ (by decide +kernel), codeAny_builtin F.entry_type_call ?_⟩
  rw [Around.under_plain (weight_type_call_type "set" [.ref l] []) rfl]
  have y3 := F.called_set.notType
  have y4 := F.called_set.canCreate
  have y5 := F.typeCall_set_1 (.ref l)
  repeat (any_goals (first | assumption | wp_step))
  generalize hb : (!w.params.followText "set-order") = led at *
  have hled : w.params.followText "set-order" = true ∨ led = true := by
    rw [← hb]
    cases w.params.followText "set-order" <;> simp
  have z0 : ∀ b, s.heap.objs.size ≤ b → s.heap.get? b = none := fun b hb => by
    cases e : s.heap.get? b with
    | none => rfl
    | some o => exact absurd (Heap.lt_size e) (Nat.not_lt.mpr hb)
  have n1 : (s.heap.push (set0 led)).objs.size = s.heap.objs.size + 1 := Heap.size_push ..
  have g1 : (s.heap.push (set0 led)).get? s.heap.objs.size = some (set0 led) := Heap.get?_push_size _ rfl
  apply codeAny_mono (code_set_led1 (.ref l) (E := E) (Q₁ := fun obj s₁ => obj = .ref s.heap.objs.size ∧ s₁ = { s with heap := s.heap.push (set0 led) }) ⟨rfl, by rw [hb]; rfl⟩)
  intro r s₁ hr
  rcases r with e | fl
  · exact hr
  cases fl with
  | next => exact hr.elim
  | brk => exact hr.elim
  | cont => exact hr.elim
  | ret obj =>
  obtain ⟨rfl, rfl⟩ := hr
  have ty : Shared.TypeIs { s with heap := s.heap.push (set0 led) } (.ref s.heap.objs.size) "set" := ⟨_, g1, rfl⟩
  have x1 := F.called_set.init.lookup
  have x2 := F.called_set.init.bind (.ref s.heap.objs.size)
  repeat (any_goals (first | assumption | wp_step))
  apply codeAny_mono (codeAny_call_builtin (R := wants (fun r s₂ => r = .none ∧ ∃ h' tk, s₂ = { s with heap := h', toks := tk } ∧ Post h' ∧
    (∀ b o, s.heap.get? b = some o → h'.get? b = some o)) E) F.called_set.init.plain F.entry_set_init (check_set_init_1 ty _))
  · intro r₂ s₂ hr₂
    rcases r₂ with e | fl₂
    · exact hr₂
    cases fl₂ with
    | next => exact hr₂.elim
    | brk => exact hr₂.elim
    | cont => exact hr₂.elim
    | ret r =>
      obtain ⟨rfl, h', tk, rfl, g, k⟩ := hr₂
      repeat (any_goals (first | assumption | wp_step))
      exact q.out _ _ g k
  obtain ⟨⟨oc, od, odt, osl⟩, hol, hcl, nl, hdl⟩ := hl
  dsimp only at hcl hdl
  subst hcl hdl
  have ls : l < s.heap.objs.size := Heap.lt_size hol
  have g2 := Heap.get?_push_of_some (set0 led) hol
  have w1 := F.sub_list_set
  have w2 := F.sub_list_frozenset
  have w3 : (Value.type "list" == Value.type "dict") = false := by decide
  have hl1 : (s.heap.push (set0 led)).IsList l its := ⟨_, g2, rfl, nl, rfl⟩
  unfold Builtin.«set.__init__» noKeywords Builtin.Frozenset.updateFrom
  generalize hPI : pyIter = PI
  clear q y1 y2 y3 y4 y5 x1 x2 ty g1 z0 n1 hb
  wp_walk
  subst hPI
  apply wpAny_pyIter_list hl1
  apply wpAny_bind (wpAny_runValue _)
  refine loop.run led _ hled fun h' tk g k => ?_
  show wpAny _ _ _ _ _ _
  apply wpAny_pure
  show wpAny _ _ (ret Value.none) _ _ _
  exact wpAny_pure ⟨rfl, h', tk, rfl, g, k⟩
theorem no_above {h : Heap} {b : Addr} (hb : h.objs.size ≤ b) : h.get? b = none := by
  cases e : h.get? b with
  | none => rfl
  | some o => exact absurd (Heap.lt_size e) (Nat.not_lt.mpr hb)
/-- set(xs), xs a list of such tuples -/
theorem call_setK {l : Addr} {its : Array Value} (ks : List Row) {Q : Value → Shared → Prop} (hh : A.handled = none) (hl : s.heap.IsList l its) (hit : its.toList = ks.map fun p => Value.ref p.1)
    (hk : ∀ p, p ∈ ks → TupK P w s.heap p.2 p.1) (few : Few ks) (hu : A.units + 3 < cLine)
    (q : ∀ (h' : Heap) (tk : Nat) L es ep t, SetK P w h' s.heap.objs.size L es ep t → Had ks ks.length L → (∀ b o, s.heap.get? b = some o → h'.get? b = some o) → Q (.ref s.heap.objs.size) { s with heap := h', toks := tk }) :
    wpAny (model P w) A (call (.type "set") [.ref l]) Q E s := by
  have isz : its.size = ks.length := by
    have z : its.toList.length = (ks.map fun p => Value.ref p.1).length := by rw [hit]
    simpa using z
  refine call_set_gen (fun h' => ∃ L es ep t, SetK P w h' s.heap.objs.size L es ep t ∧ Had ks ks.length L) hl ⟨?_⟩ ⟨fun h' tk ⟨L, es, ep, t, hS, g⟩ k => q h' tk L es ep t hS g k⟩
  intro led R hled hR
  have n1 : (s.heap.push (set0 led)).objs.size = s.heap.objs.size + 1 := Heap.size_push ..
  have g1 : (s.heap.push (set0 led)).get? s.heap.objs.size = some (set0 led) := Heap.get?_push_size _ rfl
  have hl1 := hl.push (set0 led)
  have ls : l < s.heap.objs.size := by
    obtain ⟨o, ho, _⟩ := hl
    exact Heap.lt_size ho
  have h3 : A.in1.in1.in1.handled = none := by simp [hh]
  have nI : l ≠ (s.heap.push (set0 led)).objs.size := by
    rw [n1]
    exact Nat.ne_of_lt (Nat.lt_succ_of_lt ls)
  have val : ∀ (i : Nat) (v : Value), its[i]? = some v → ∃ p, ks[i]? = some p ∧ v = .ref p.1 := fun i v hv => by
    rw [← Array.getElem?_toList, hit, List.getElem?_map] at hv
    obtain ⟨p, e1, e2⟩ := Option.map_eq_some_iff.mp hv
    exact ⟨p, e1, e2.symm⟩
  refine loopK ((Walks.list h3 _ l nI its).toS) s.heap.objs.size ?n1 ks isz few val s.heap hk (no_above (Nat.le_refl _)) ?n2 hu (its.size - 0) 0 _ (by omega) (Nat.zero_le _)
    ⟨⟨_, Heap.get?_push_size _ rfl, rfl, rfl⟩, (hl1.push _)⟩ (fun b o e => Heap.get?_push_of_some _ (Heap.get?_push_of_some _ e)) ⟨[], #[], 0, _, setK_new (Heap.get?_push_of_some _ g1), Had.nil ks⟩ ?n3
  case n1 =>
    rw [n1]
    simp only [List.mem_cons, List.not_mem_nil, or_false, not_or]
    exact ⟨Nat.ne_of_lt (Nat.lt_succ_self _), Nat.ne_of_gt ls⟩
  case n2 =>
    intro b hb
    rw [List.mem_singleton.mp hb, n1]
    exact no_above (Nat.le_succ _)
  case n3 =>
    intro s' L es ep t mv hS g k
    obtain ⟨h', g2, d', tk', os'⟩ := s'
    obtain rfl : g2 = s.gens := mv.gens
    obtain rfl : d' = s.drawn := mv.drawn
    obtain rfl : os' = s.os := mv.os
    rw [isz] at g
    exact hR h' tk' ⟨L, es, ep, t, hS, g⟩ k
end

/-! ### len(set(xs)) as a rule of the layer -/
/-- how many different ones -/
def many {α : Type} [DecidableEq α] (l : List α) : Nat := l.eraseDups.length
section
variable {X : Cx}
theorem TupK.of {pins : List (Addr × Obj)} {σ : L2.St} {H : Hp} {s : Shared} (I : Inv X pins σ H s) {a : Addr} {k : List Key} (h : SqT X.K H a (k.map kV)) : TupK X.prog X.w s.heap k a := by
  obtain ⟨its, rv, ⟨o, h1, h2, n, h3⟩, z⟩ := I.tuple h
  refine ⟨o, its.toArray, n, h1, h2, h3, ?_⟩
  rw [List.toList_toArray]
  clear h1 h2 h3 h z
  induction k generalizing its with
  | nil =>
    cases rv
    exact .nil
  | cons x k ih =>
    cases rv with
    | cons r t =>
      refine .cons ?_ (ih _ t)
      cases x with
      | inl i =>
        obtain ⟨t, rfl⟩ := r
        exact keyIs_int i t
      | inr z =>
        obtain ⟨t, rfl⟩ := r
        exact keyIs_str z t
/-- F: that there are few -/
def tLenSetG (F : List Row → Prop) (K : PySem.W.Frag) (ta : TE) : TE := fun σ H Q => ta σ H fun x H1 => ∃ (l : Addr) (ks : List Row), x = V.ref l ∧ SqL K H1 l (ks.map fun p => V.ref p.1) ∧ (∀ p, p ∈ ks → SqT K H1 p.1 (p.2.map kV)) ∧ F ks ∧
  ∀ n : Nat, (∀ D : List (List Key), D.Nodup → (∀ k, k ∈ D ↔ k ∈ keysK ks) → D.length = n) → Q (.int n) H1
def tLenSetK (K : PySem.W.Frag) (ta : TE) : TE := tLenSetG (fun ks => ks.length < 64) K ta
theorem nodup_same {α : Type} : ∀ {l m : List α}, l.Nodup → m.Nodup → (∀ x, x ∈ l ↔ x ∈ m) → l.length = m.length := fun h1 h2 h =>
  ((List.perm_ext_iff_of_nodup h1 h2).mpr h).length_eq
theorem pe_lenSetG {F : List Row → Prop} (hF : ∀ ks, F ks → Few ks) {a : Expr} {ta : TE} {p p2 q pos : Pos} (hc : X.calm = true) (hg : Gl X "len") (hm : X.mg "len" = none) (hg2 : Gl X "set") (hm2 : X.mg "set" = none) (ha : PE X a ta) (hu : X.A.units + 64 < cLine)
    (na : starEach [a] X.env = (false, eval a X.env) :: starEach [] X.env := by rfl) : PE X (.Call (.Name "len" p) [.Call (.Name "set" p2) [a] [] q] [] pos) (tLenSetG F X.K ta) := by
  refine ⟨fun pins s σ H Q I h => ?_⟩
  apply Call_ (ld_blt I hg hm PySem.boot_len _)
  apply PyProof.Rows.callWith_builtin1 (PyProof.Rows.args_cons _ rfl) rfl rfl
  apply Call_ (ld_blt I hg2 hm2 PyProof.Rows.boot_set _)
  apply PyProof.Rows.callWith_type1 (PyProof.Rows.args_cons (thn (ha.run pins s σ H _ I h) _) na) na rfl
  rintro v s1 ⟨x, H1, I1, r1, l, ks, rfl, hl, hk, few, q1⟩
  apply PyProof.Rows.args_nil
  cases r1
  obtain ⟨its, rv, pl, hz⟩ := I1.list hl
  have e1 : its = ks.map fun p => Value.ref p.1 := by
    clear hl pl hz hk few q1 I1
    induction ks generalizing its with
    | nil =>
      cases rv
      rfl
    | cons p ks ih =>
      cases rv with
      | cons r t =>
        cases r
        rw [List.map_cons, ih _ t]
  apply call_setK ks (I1.ok.hd hc) pl.isList (by rw [List.toList_toArray, e1]) (fun p hp => TupK.of I1 (hk p hp)) (hF ks few) (by omega)
  intro h' tk L es ep t R g k
  apply PyProof.Rows.args_nil
  have I2 : Inv X pins σ H1 { s1 with heap := h', toks := tk } := I1.kept fun b o e => k b o e
  have ln := rowsK_len R.rws
  have hL : L.length = (keysK L).length := by simp [keysK]
  obtain ⟨o, ho, hex, hd⟩ := R.obj
  have fin := q1 L.length fun D h1 h2 => by
    rw [hL]
    refine nodup_same h1 R.uni fun x => ?_
    rw [h2, keysK, List.mem_map]
    constructor
    · rintro ⟨p, hp, rfl⟩
      exact g.all p (by rw [List.take_length]; exact hp)
    · intro hx
      obtain ⟨p, hp, rfl⟩ := List.mem_map.mp hx
      exact ⟨p, by have := g.sub p hp; rwa [List.take_length] at this, rfl⟩
  have lo := R.low
  exact call_len_set ho hex hd (SetK.fit (s := { s1 with heap := h', toks := tk }) R) (by rw [ln]; omega) ⟨.int L.length, H1, I2.tok _, ⟨_, by rw [ln]⟩, fin⟩
theorem pe_lenSetK {a : Expr} {ta : TE} {p p2 q pos : Pos} (hc : X.calm = true) (hg : Gl X "len") (hm : X.mg "len" = none) (hg2 : Gl X "set") (hm2 : X.mg "set" = none) (ha : PE X a ta) (hu : X.A.units + 64 < cLine)
    (na : starEach [a] X.env = (false, eval a X.env) :: starEach [] X.env := by rfl) : PE X (.Call (.Name "len" p) [.Call (.Name "set" p2) [a] [] q] [] pos) (tLenSetK X.K ta) := pe_lenSetG (F := fun ks => ks.length < 64) (fun _ h => few_of h) hc hg hm hg2 hm2 ha hu na
end
end Kx
/-! len(set(xs)), xs a list of texts. -/
namespace Kx
open PySem PySem.Spec PyProof.Rows L2
/-- how many different ones stand in a list -/
def cnt {α : Type} [DecidableEq α] : List α → Nat
  | [] => 0
  | x :: l => if x ∈ l then cnt l else cnt l + 1
section
variable {P : Program} {w : World} {A : Around} {E : Value → Shared → Prop} {s : Shared}
def inS (xs : List Str) (k : Str) : Bool := decide (k ∈ xs)
theorem cnt_rev_append {α : Type} [DecidableEq α] : ∀ (l : List α) (x : α), cnt (l ++ [x]) = if x ∈ l then cnt l else cnt l + 1
  | [], x => by simp [cnt]
  | y :: l, x => by
    have ih := cnt_rev_append l x
    by_cases h3 : y = x
    · subst h3
      by_cases h1 : y ∈ l <;> simp_all [cnt]
    · have h4 : ¬ x = y := fun e => h3 e.symm
      by_cases h1 : x ∈ l <;> by_cases h2 : y ∈ l <;> simp_all [cnt]
theorem cnt_le {α : Type} [DecidableEq α] : ∀ l : List α, cnt l ≤ l.length
  | [] => Nat.le_refl _
  | x :: l => by
    have := cnt_le l
    unfold cnt
    split <;> simp <;> omega
theorem loopS {I : Addr} {fp wr : List Addr} {G : Array GenState → Array GenState → Prop} {n : Nat} {Pv : Nat → Value → Prop} {St : Nat → Shared → Prop} {R : Result → Shared → Prop}
    (W : WalksS P w A.in1 I fp wr G n Pv St) (S : Addr) (nS : S ∉ fp) (xs : List Str) (hn : n = xs.length) (few : xs.length < 4000) (val : ∀ i v, Pv i v → ∃ x t, xs[i]? = some x ∧ v = .str x t)
    (g0 : Heap) (n0 : g0.get? S = none) (w0 : ∀ b, b ∈ wr → g0.get? b = none) :
    ∀ (m i : Nat) (s : Shared), n - i = m → i ≤ n → St i s → (∀ b o, g0.get? b = some o → s.heap.get? b = some o) → s.heap.SetOf (strKind P w) S (inS (xs.take i)) (cnt (xs.take i)) →
      (∀ s', Moved (S :: wr) G s s' → s'.heap.SetOf (strKind P w) S (inS xs) (cnt xs) → (∀ b o, g0.get? b = some o → s'.heap.get? b = some o) → R (.ok (.ret .none)) s') →
      codeAny (model P w) A (.builtin "set.update.loop" ⟨[.ref S, .ref I], []⟩) R s := by
  have sw : S ∉ wr := fun h => nS (W.sub _ h)
  have up : ∀ b, b ∈ wr → b ∈ S :: wr := fun b hb => List.mem_cons_of_mem _ hb
  have kp : ∀ {s s' : Shared}, Moved wr G s s' → (∀ b o, g0.get? b = some o → s.heap.get? b = some o) → ∀ b o, g0.get? b = some o → s'.heap.get? b = some o := fun hm h b o e =>
    hm.heap b o (fun hb => by rw [w0 b hb] at e; cases e) (h b o e)
  have stay : ∀ {h h' : Heap} {f : Str → Bool} {c : Nat}, h.SetOf (strKind P w) S f c → (∀ o, h.get? S = some o → h'.get? S = some o) → h'.SetOf (strKind P w) S f c := fun ⟨o, es, ep, tb, ho, r⟩ k => ⟨o, es, ep, tb, k o ho, r⟩
  intro m
  induction m with
  | zero =>
    intro i s hm hi hst hkp hS hR
    obtain rfl : i = n := by omega
    apply codeAny_builtin F.entry_set_update_loop
    rw [Around.under_plainId F.plain_set_update_loop _]
    show wpAny _ A.in1 (pyNext (.ref I) >>= _) _ _ s
    apply wpAny_bind (W.done s _ _ hst _)
    intro s' mv
    show wpAny _ A.in1 (ret Value.none) _ _ s'
    rw [hn, List.take_length] at hS
    exact wpAny_pure (hR s' (mv.mono up) (stay hS fun o e => mv.heap S o sw e) (kp mv hkp))
  | succ m ih =>
    intro i s hm hi hst hkp hS hR
    have lt : i < n := by omega
    apply codeAny_builtin F.entry_set_update_loop
    rw [Around.under_plainId F.plain_set_update_loop _]
    show wpAny _ A.in1 (pyNext (.ref I) >>= _) _ _ s
    apply wpAny_bind (W.item i s _ _ lt hst _)
    intro v s' hP hst' mv
    obtain ⟨x, t, hx, rfl⟩ := val i v hP
    have k2 := kp mv hkp
    have hS' := stay hS fun o e => mv.heap S o sw e
    have room : cnt (xs.take i) ≤ i := Nat.le_trans (cnt_le _) (by rw [List.length_take]; omega)
    show wpAny _ A.in1 (holding [Value.str x t] (setAdd S (.str x t)) >>= _) _ _ s'
    apply wpAny_bind (wpAny_holding _)
    unfold setAdd
    apply wpAny_holding
    apply wpAny_bind ((PySem.strKind P w).pyHash (k := x) (strKind_is _ _ _ _) _)
    apply wpAny_setAddHashed_of (knd := PySem.strKind P w) (s := { s' with toks := s'.toks + 1 }) (strKind_is _ _ _ _) rfl hS' (by unfold scanBound; omega)
    intro h' sb hS2
    have k3 : ∀ b o, g0.get? b = some o → h'.get? b = some o := fun b o e => (sb.2 b (fun z => by rw [z, n0] at e; cases e)).trans (k2 b o e)
    have fr := W.frame (i + 1) s' h' (s'.toks + 1) hst' (Nat.le_add_right _ _) fun b hb o e => by
      rw [sb.2 b (fun h : b = S => nS (by rw [← h]; exact hb))]; exact e
    have hS3 : h'.SetOf (PySem.strKind P w) S (inS (xs.take (i + 1))) (cnt (xs.take (i + 1))) := by
      refine SetOf_congr hS2 (fun k => ?_) ?_
      · rw [take_one hx]
        by_cases e : k = x <;> by_cases e2 : k ∈ xs.take i <;> simp [inS, e, e2]
      · rw [take_one hx, cnt_rev_append]
        by_cases e : x ∈ xs.take i <;> simp [inS, e]
    apply wpAny_pure
    refine ⟨plainId_quiet F.plain_set_update_loop _, ih (i + 1) _ (by omega) lt fr k3 hS3 fun s'' mv2 hS4 k4 => ?_⟩
    refine hR s'' (Moved.trans W.gtrans ((mv.mono up).then_heap (Nat.le_add_right _ _) fun b o hb e => ?_) mv2) hS4 k4
    rw [sb.2 b fun h => hb (by rw [h]; exact List.mem_cons_self)]
    exact e
/-- set(xs), xs a list of texts -/
theorem call_setS {l : Addr} {its : Array Value} (xs : List Str) {Q : Value → Shared → Prop} (hh : A.handled = none) (hl : s.heap.IsList l its) (hi : PyProof.Rows.StrsAre its.toList xs) (few : xs.length < 4000)
    (q : ∀ (h' : Heap) (tk : Nat), h'.SetOf (strKind P w) s.heap.objs.size (inS xs) (cnt xs) → (∀ b o, s.heap.get? b = some o → h'.get? b = some o) → Q (.ref s.heap.objs.size) { s with heap := h', toks := tk }) :
    wpAny (model P w) A (call (.type "set") [.ref l]) Q E s := by
  have isz : its.size = xs.length := by rw [← StrsAre.len_eq hi, Array.length_toList]
  refine call_set_gen (fun h' => h'.SetOf (strKind P w) s.heap.objs.size (inS xs) (cnt xs)) hl ⟨?_⟩ ⟨fun h' tk hS k => q h' tk hS k⟩
  intro led R hled hR
  have n1 : (s.heap.push (set0 led)).objs.size = s.heap.objs.size + 1 := Heap.size_push ..
  have g1 : (s.heap.push (set0 led)).get? s.heap.objs.size = some (set0 led) := Heap.get?_push_size _ rfl
  have hl1 := hl.push (set0 led)
  have ls : l < s.heap.objs.size := by
    obtain ⟨o, ho, _⟩ := hl
    exact Heap.lt_size ho
  have h3 : A.in1.in1.in1.handled = none := by simp [hh]
  have nI : l ≠ (s.heap.push (set0 led)).objs.size := by
    rw [n1]
    exact Nat.ne_of_lt (Nat.lt_succ_of_lt ls)
  have val : ∀ (i : Nat) (v : Value), its[i]? = some v → ∃ x t, xs[i]? = some x ∧ v = .str x t := fun i v hv => by
    rw [← Array.getElem?_toList] at hv
    have lt : i < xs.length := by
      rw [← isz, ← Array.length_toList]
      exact (List.getElem?_eq_some_iff.mp hv).1
    obtain ⟨t, e⟩ := SS.strs_at hi i v hv
    exact ⟨xs[i], t, List.getElem?_eq_getElem lt, by rw [e]; simp [List.getD, List.getElem?_eq_getElem lt]⟩
  refine loopS ((Walks.list h3 _ l nI its).toS) s.heap.objs.size ?n1 xs isz few val s.heap (no_above (Nat.le_refl _)) ?n2 (its.size - 0) 0 _ (by omega) (Nat.zero_le _)
    ⟨⟨_, Heap.get?_push_size _ rfl, rfl, rfl⟩, (hl1.push _)⟩ (fun b o e => Heap.get?_push_of_some _ (Heap.get?_push_of_some _ e)) ?n4 ?n3
  case n1 =>
    rw [n1]
    simp only [List.mem_cons, List.not_mem_nil, or_false, not_or]
    exact ⟨Nat.ne_of_lt (Nat.lt_succ_self _), Nat.ne_of_gt ls⟩
  case n2 =>
    intro b hb
    rw [List.mem_singleton.mp hb, n1]
    exact no_above (Nat.le_succ _)
  case n3 =>
    intro s' mv hS k
    obtain ⟨h', g2, d', tk', os'⟩ := s'
    obtain rfl : g2 = s.gens := mv.gens
    obtain rfl : d' = s.drawn := mv.drawn
    obtain rfl : os' = s.os := mv.os
    exact hR h' tk' hS k
  case n4 =>
    refine ⟨set0 led, #[], 0, .fresh 0 0 led, Heap.get?_push_of_some _ g1, ⟨rfl, rfl, rfl⟩, rfl, ?_⟩
    exact ⟨fun e he => (nomatch he), fun k => ⟨fun h => (by simp [inS] at h), fun ⟨e, he, _⟩ => (nomatch he)⟩, (by decide : 0 < scanBound), rfl, by simp [cnt]⟩
end
section
variable {X : Cx}
theorem sAre_of : ∀ {xs : List Str} {us : List Value}, Vals (xs.map V.str) us → StrsAre us xs
  | [], _, .nil => .nil
  | x :: xs, _, .cons r t => by
    obtain ⟨tk, rfl⟩ := r
    exact .cons x tk (sAre_of t)
def tLenSetT (K : PySem.W.Frag) (ta : TE) : TE := fun σ H Q => ta σ H fun x H1 => ∃ (l : Addr) (xs : List Str), x = V.ref l ∧ SqL K H1 l (xs.map V.str) ∧ xs.length < 4000 ∧ Q (.int (cnt xs : Nat)) H1
theorem pe_lenSetT {a : Expr} {ta : TE} {p p2 q pos : Pos} (hc : X.calm = true) (hg : Gl X "len") (hm : X.mg "len" = none) (hg2 : Gl X "set") (hm2 : X.mg "set" = none) (ha : PE X a ta)
    (na : starEach [a] X.env = (false, eval a X.env) :: starEach [] X.env := by rfl) : PE X (.Call (.Name "len" p) [.Call (.Name "set" p2) [a] [] q] [] pos) (tLenSetT X.K ta) := by
  refine ⟨fun pins s σ H Q I h => ?_⟩
  apply Call_ (ld_blt I hg hm PySem.boot_len _)
  apply PyProof.Rows.callWith_builtin1 (PyProof.Rows.args_cons _ rfl) rfl rfl
  apply Call_ (ld_blt I hg2 hm2 PyProof.Rows.boot_set _)
  apply PyProof.Rows.callWith_type1 (PyProof.Rows.args_cons (thn (ha.run pins s σ H _ I h) _) na) na rfl
  rintro v s1 ⟨x, H1, I1, r1, l, xs, rfl, hl, few, q1⟩
  apply PyProof.Rows.args_nil
  cases r1
  obtain ⟨its, rv, pl, hz⟩ := I1.list hl
  apply call_setS xs (I1.ok.hd hc) pl.isList (by rw [List.toList_toArray]; exact sAre_of rv) few
  intro h' tk ⟨o, es, ep, t, ho, hex, hd, _, _, _, hf, hn⟩ k
  apply PyProof.Rows.args_nil
  have I2 : Inv X pins σ H1 { s1 with heap := h', toks := tk } := I1.kept fun b o e => k b o e
  have le := cnt_le xs
  exact call_len_set ho hex hd hf (by rw [hn]; omega) ⟨.int (cnt xs : Nat), H1, I2.tok _, ⟨_, by rw [hn]⟩, q1⟩
end
end Kx
/-! Further rules of the layer. -/
namespace Kx
open PySem PySem.Spec PyProof.Rows L2
section
variable {X : Cx}
/-- a power of a great number -/
theorem op_powX : OpR X (binaryOp .Pow) (rI (fun i j => 0 ≤ j ∧ (Builtin.Int.intBits i : Int) * j ≤ 2 ^ 27) fun i j => .int (i ^ j.toNat)) :=
  opI fun _ _ _ _ _ _ _ hc q => pow_int hc.1 hc.2 q
/-- one item more than a list's -/
theorem meets_extend_tup (l : Addr) (items : Array Value) (n : Nat) (b : Addr) (items2 : Array Value) (n2 : Nat) (od : Option Addr) (osl : Array (Option Value)) (hs0 : ¬(!items.isEmpty && Builtin.List.listTooLong (items.size + items2.size)) = true) (hs1 : items.size ≤ sizeLine) (hs2 : items.size + items2.size ≤ sizeLine + 1) :
    Meets (Builtin.«list.extend» ⟨[.ref l, .ref b], []⟩) (fun _ R s => s.heap.get? l = some { cls := .type "list", dict := none, data := .seq items n, slots := #[] } ∧ s.heap.get? b = some { cls := .type "tuple", dict := od, data := .seq items2 n2, slots := osl } ∧
      R (.ok (.ret Value.none)) { s with heap := s.heap.update l (Obj.mapSeq fun x => x ++ items2), toks := s.toks }) :=
  .of_wp fun prog w A R s h => by
    obtain ⟨hp, g, d, tk, os⟩ := s
    obtain ⟨hl, hb, h⟩ := h
    have f1 := AutoSeq1.idx_int
    have f2 := AutoSeq1.sub_tuple_tuple
    have f3 := AutoSeq1.sub_list_list
    have f4 := AutoSeq1.sub_tuple_list
    have f5 := AutoSeq1.sub_list_tuple
    have hz' : (items ++ items2).size ≤ sizeLine + 1 := by
      rw [Array.size_append]
      exact hs2
    wp_walk using (wpAny_updateSeq hl rfl (hz := hs1) (_hz' := hz')), AutoSeq1.wpAny_loadPart' hl, AutoSeq1.wpAny_loadPart' hb
    exact ⟨_, rfl, h⟩
/-- xs.extend(t), t a tuple -/
def rExtT (K : PySem.W.Frag) : V → List V → Hp → VK → Prop := fun x vs H Q => ∃ l b xs zs, x = .ref l ∧ vs = [.ref b] ∧ H l = some (.lst xs) ∧ SqT K H b zs ∧ xs.length + zs.length ≤ sizeLine ∧ Q .non (upd H l (.lst (xs ++ zs)))
theorem mt_extT : MtM X "list.extend" (rExtT X.K) := by
  intro pins s σ H x vs v us Q I rx rv h
  obtain ⟨l, b, xs, zs, rfl, rfl, hH, hB, hz, q⟩ := h
  cases rx
  obtain ⟨u, rfl, ru⟩ := rv.one
  cases ru
  obtain ⟨z, its, n, r, hl, e⟩ := I.lstM hH
  obtain ⟨its2, r2, ⟨⟨oc, od, odt, osl⟩, e2, hc, n2, hd⟩, z2⟩ := I.tuple hB
  dsimp only at hc hd
  subst hc hd
  have sz : its.toArray.size + its2.toArray.size ≤ sizeLine := by
    rw [List.size_toArray, List.size_toArray, ← r.length, ← r2.length]
    exact hz
  refine call_meets F.slot_list_extend ⟨_, e, rfl⟩ F.entry_list_extend (F.args_list_extend_2 _ _)
    (meets_extend_tup l its.toArray n b its2.toArray n2 od osl ?_ ?_ ?_) ⟨e, e2, ?_⟩
  · rw [notLongL sz, Bool.and_false]
    exact Bool.false_ne_true
  · omega
  · omega
  · refine ⟨.non, _, I.lset (its' := its ++ its2) hH e (by simp) (r.append r2) ?_, rfl, q⟩
    rw [List.length_append]
    exact hz
end
end Kx
/-! Defs that are called where no repr runs: the layer's promise of a def, with that told. -/
namespace Kx
open PySem PySem.Spec PyProof.Rows L2
/-- nothing around A shows itself -/
def Calm (A : Around) : Prop := A.guards = some []
/-- as FnOk, where nothing around shows itself -/
structure FnG (P : Program) (w : World) (K : PySem.W.Frag) (mg : Str → Option Value) (base : Heap) (k : Nat) (f : Addr) (fd : FuncData) (ps : List Str) (sp : Sp) : Prop where
  len : ∀ vs H Q E, sp vs H Q E → vs.length = ps.length
  run : ∀ (A : Around) (outer : List Env) (s : Shared) (H : Hp) (args : Args) (us : List Value) (vs : List V) (Q : VK) (E : XK), Calm A → Room k A → Env0 P w K mg base A outer s H → BindsTo s fd args (ps.zip us) → Vals vs us → sp vs H Q E →
    codeAny (model P w) A (.call (.ref f) args) (CR CX0 outer P w H s Q E) s
theorem calm_deeper {A : Around} {env : Env} (h : Calm A) : Calm (A.deeper env) := by
  unfold Calm at *
  show (A.deeper env).guards = some []
  simp [Around.deeper, h]
section
variable {P : Program} {w : World} {K : PySem.W.Frag} {mg : Str → Option Value} {base : Heap}
theorem fnG_mono {j k : Nat} {f : Addr} {fd : FuncData} {ps : List Str} {sp : Sp} (F : FnG P w K mg base j f fd ps sp) (h : j ≤ k) : FnG P w K mg base k f fd ps sp :=
  ⟨F.len, fun A outer s H args us vs Q E c hr => F.run A outer s H args us vs Q E c (hr.mono h)⟩
/-- THE RULE: a def of the text by its body -/
theorem okG {x qual : Str} {st : Stmt} {f : Addr} {fd : FuncData} {N ps : List Str} {k : Nat} {sp : Sp} (F : Fun K x qual st f fd) (S : FnScope N ps (defScope st)) (len : ∀ vs H Q E, sp vs H Q E → vs.length = ps.length)
    (hbody : ∀ (cdv : Value) (A : Around) (outer : List Env) (s : Shared) (H : Hp) (vs : List V) (Q : VK) (E : XK), Calm (A.deeper (envOfC qual (defScope st) s.heap.objs.size f cdv)) → Room k (A.deeper (envOfC qual (defScope st) s.heap.objs.size f cdv)) → sp vs H Q E →
      ∃ t, PSs (cxOf CX0 P w K mg base N qual (defScope st) f cdv A outer s H E).nox (defBody st) t ∧ t { nx := fun _ H' => Q .non H', rt := Q } (start N vs) H) : FnG P w K mg base (k + 1) f fd ps sp := by
  obtain ⟨oc, od, kV, doc, pm, an, cdv, ct, osl, rfl, lk, hcd⟩ := F.ex
  constructor
  · exact len
  intro A outer s H args us vs Q E cm hr e0 hb r hsp
  have nl := len _ _ _ _ hsp
  have kin : K.In s.heap := e0.mod.kin.keeps fun b o e => (e0.bs b o e).1
  have lim : s.heap.NoLimit := e0.mod.nolimit.keeps fun b o e => (e0.bs b o e).1
  refine codeAny_call_function hr.depth (kin _ _ lk) rfl S.co S.gen rfl (PySem.W.codeRec_of kin hcd) (hb _ _ _ _ (wpAny_newFunctionEnv_cells S.kind ?_ ?_))
  · rintro ⟨n, v⟩ hy
    rcases S.par n (List.of_mem_zip hy).1 with q | q
    · exact .inl q
    · exact .inr ⟨q, PySem.W.cellsFrom_some _ _ _ (.inl q)⟩
  rintro env rfl s1 x
  refine ⟨lim.keeps x.toInCall.keep, codeAny_func ?_⟩
  obtain ⟨t, ht, hq⟩ := hbody cdv A outer s H vs Q E (calm_deeper cm) (hr.deeper _) hsp
  have J0 := inv_start (CX := CX0) (f := f) (cd := cdv) (E := E) (qual := qual) S hr.hd e0 nl r x
  refine wpAny_mono (ht.nox.run [] s1 _ H _ J0 hq) ?_ fun e s' hs => hs
  intro fl s' hs
  rcases fl with _ | _ | _ | u
  · obtain ⟨σ', H', J, q⟩ := hs
    exact ⟨.non, H', J.os, J.bare, J.base, J.hok, rfl, q⟩
  · obtain ⟨_, _, _, q⟩ := hs
    exact q.elim
  · obtain ⟨_, _, _, q⟩ := hs
    exact q.elim
  · obtain ⟨v, σ', H', J, rv, q⟩ := hs
    exact ⟨v, H', J.os, J.bare, J.base, J.hok, rv, q⟩
end
section
variable {X : Cx} {k : Nat} {f : Addr} {fd : FuncData} {ps : List Str} {sp : Sp} {x : Str} {p pos : Pos} {e : Expr} {es : List Expr} {t : TA} {ds : List Value} {dvs : List V} {E : XK}
/-- f(e, ..) for such a def -/
theorem pe_callG (F : FnG X.prog X.w X.K X.mg X.base k f fd ps sp) (cm : Calm X.A) (hr : Room k X.A) (hg : Gl X x) (hm : X.mg x = some (.ref f)) (hk : PySem.W.keepIn X.K (.ref f) = true) (hb : Binds X.K fd ps [])
    (ha : PA X (e :: es) t) (hdb : (x == ("__debug__" : Str)) = false := by decide) (he : starEach (e :: es) X.env = (false, eval e X.env) :: starEach es X.env := by rfl) (hpl : (backTo pos (starEach es X.env)).any (·.1) = false := by rfl) :
    PE X (.Call (.Name x p) (e :: es) [] pos) (tCall sp [] E0 t) := by
  refine ⟨fun pins s σ H Q I h => wpAny_Call_Name_kw (ld_glob I hg hm ?_ hdb)⟩
  refine PySem.W.callWith_K (h₀ := X.base) I.ok.mod.kin hk (thn (ha.run pos pins s σ H _ I h) ?_) he hpl
  rintro us s1 ⟨vs, H1, I1, r, q⟩
  refine ⟨I1.kIn, ?_⟩
  rw [List.append_nil] at q
  have hl : us.length = ps.length := by
    rw [← r.length]
    exact F.len _ _ _ _ q
  have hb' := hb s1 us I1.kIn (by rw [List.append_nil]; exact hl)
  rw [List.append_nil] at hb'
  refine wpAny_call (codeAny_mono (F.run X.A X.stack s1 H1 ⟨us, []⟩ us vs Q E0 cm hr I1.env0 hb' r q) ?_)
  intro r2 s' hq
  rcases r2 with z | fl
  · exact hq.elim
  rcases fl with _ | _ | _ | u
  · exact hq.elim
  · exact hq.elim
  · exact hq.elim
  · exact I1.after hq
end

section
variable {P : Program} {w : World} {K : PySem.W.Frag} {mg mb : Str → Option Value} {k : Nat} {fa a : Addr} {fd : FuncData} {x : Str} {sp : Sp} {s₁ : Shared} {vs : List Value} {ns : List Int}
/-- what the law's call starts from, over an abstract heap H in which the script alone may stand -/
theorem law_from {H : Hp} (hO : Only H) (hS : SqL K H a (ns.map V.int)) (hok : HOk P w H s₁.heap) (hA : ∀ b, H b ≠ none → b = a) (hK : H a ≠ none → K.lookup a = none)
    (KX : K.In s₁.heap) (hns : s₁.heap.Ns mainGlobals mg) (hb : s₁.heap.Ns builtinsNs mb) (hbb : ∀ x : Str, x ≠ "__name__" → mb x = bootBuiltins x) (hlim : s₁.heap.NoLimit) (hg : s₁.gens = #[])
    (ha : s₁.heap.get? a = some { cls := .type "list", data := .seq vs.toArray }) (hr : Room k callerA)
    (F : ∀ base : Heap, K.In base → base.Ns mainGlobals mg → FnG P w K mg base k fa fd [x] sp) (hbind : ∀ (s : Shared) (u : Value), BindsTo s fd ⟨[u], []⟩ [(x, u)])
    (hsp : sp [.ref a] H (fun v _ => v = .bl true) fun _ _ _ => False) :
    codeAny (model P w) callerA (.call (.ref fa) ⟨[.ref a], []⟩) (fun r s' => r = .ok (.ret (.bool true)) ∧ OldK s₁.heap s'.heap ∧ s'.os = s₁.os ∧ AllBare s'.gens) s₁ := by
  have hid : ∀ {b o}, s₁.heap.get? b = some o → H b = none → (hidT s₁.heap H).get? b = some o := fun e n => hidT_get e n
  have free : ∀ {b : Addr} {o : Obj} {es : Array DictEntry} {ep : Nat}, s₁.heap.get? b = some o → o.data = .dict es ep → H b = none := by
    intro b o es ep e d
    cases q : H b with
    | none => rfl
    | some u =>
      have z := hA b (by simp [q])
      subst z
      rw [ha] at e
      cases e
      cases d
  have ns_of : ∀ {b : Addr} {m : Str → Option Value}, s₁.heap.Ns b m → (hidT s₁.heap H).Ns b m := by
    rintro b m ⟨o, es, ep, e, d, r⟩
    exact ⟨o, es, ep, hid e (free e d), d, r⟩
  have kin : K.In (hidT s₁.heap H) := by
    intro b o e
    refine hid (KX b o e) ?_
    cases q : H b with
    | none => rfl
    | some u =>
      have z := hA b (by simp [q])
      subst z
      rw [hK (by simp [q])] at e
      cases e
  have md : Mod K mg (hidT s₁.heap H) := by
    obtain ⟨mc, h1, h2⟩ := hlim
    exact ⟨kin, ns_of hns, ⟨mb, ns_of hb, hbb⟩, mc, ns_of h1, h2⟩
  have e0 : Env0 P w K mg (hidT s₁.heap H) callerA [] s₁ H := ⟨rfl, md, fun b o e => of_hidT e, Nat.le_of_eq (hidT_size _ _), trivial, fun b hb => (nomatch (show b ∈ ([] : List Addr) from hb)), hok, .of_eq hg⟩
  refine codeAny_mono ((F _ kin (ns_of hns)).run callerA [] s₁ H ⟨[.ref a], []⟩ [Value.ref a] [V.ref a] (fun v _ => v = .bl true) (fun _ _ _ => False) rfl hr e0 (hbind s₁ (.ref a)) (.cons rfl .nil) hsp) ?_
  intro r s' h
  rcases r with e | fl
  · exact h.elim
  rcases fl with _ | _ | _ | u
  · exact h.elim
  · exact h.elim
  · exact h.elim
  obtain ⟨v, H', os, bare, un, hok', r', q⟩ := h
  obtain rfl : v = .bl true := q
  obtain rfl : u = Value.bool true := r'
  refine ⟨rfl, OldK.of_keep fun b o e => ?_, os, bare⟩
  cases q : H b with
  | none => exact un.keep b o e q (fun z => (nomatch (show b ∈ ([] : List Addr) from z))) (fun z => nomatch z)
  | some u =>
    rcases hO b with z | ⟨ob, xs, z⟩
    · rw [q] at z
      cases z
    · obtain ⟨e1, _⟩ := hok b _ z
      obtain ⟨e2, _⟩ := hok' b _ (un.frzs b ob _ z)
      rw [e] at e1
      cases e1
      exact e2
theorem law_callG (KX : K.In s₁.heap) (hns : s₁.heap.Ns mainGlobals mg) (hb : s₁.heap.Ns builtinsNs mb) (hbb : ∀ x : Str, x ≠ "__name__" → mb x = bootBuiltins x) (hlim : s₁.heap.NoLimit) (hg : s₁.gens = #[])
    (ha : s₁.heap.get? a = some { cls := .type "list", data := .seq vs.toArray }) (hi : IntsAre vs ns) (hl : ns.length ≤ sizeLine) (hr : Room k callerA)
    (F : ∀ base : Heap, K.In base → base.Ns mainGlobals mg → FnG P w K mg base k fa fd [x] sp) (hbind : ∀ (s : Shared) (u : Value), BindsTo s fd ⟨[u], []⟩ [(x, u)])
    (hsp : ∀ H : Hp, Only H → SqL K H a (ns.map V.int) → sp [.ref a] H (fun v _ => v = .bl true) fun _ _ _ => False) :
    codeAny (model P w) callerA (.call (.ref fa) ⟨[.ref a], []⟩) (fun r s' => r = .ok (.ret (.bool true)) ∧ OldK s₁.heap s'.heap ∧ s'.os = s₁.os ∧ AllBare s'.gens) s₁ := by
  have rv := vals_ints hi
  have nv := hi.length
  cases hk : K.lookup a with
  | some o =>
    have e := KX a o hk
    rw [ha] at e
    cases e
    have S : SqL K (fun _ => none) a (ns.map V.int) := .inr ⟨_, vs.toArray, _, hk, rfl, rfl, rfl, by rw [List.size_toArray, nv]; exact hl, by simpa using rv⟩
    have O : Only (fun _ => none) := fun _ => .inl rfl
    exact law_from (H := fun _ => none) O S (fun b u z => (by cases (show (none : Option HO) = some u from z))) (fun b z => absurd rfl z) (fun z => absurd rfl z) KX hns hb hbb hlim hg ha hr F hbind (hsp _ O S)
  | none =>
    let ob : Obj := { cls := .type "list", data := .seq vs.toArray }
    let H : Hp := fun b => if b = a then some (.frz ob (.lst (ns.map V.int))) else none
    have at_ : H a = some (.frz ob (.lst (ns.map V.int))) := if_pos rfl
    have off : ∀ b, b ≠ a → H b = none := fun b h => if_neg h
    have S : SqL K H a (ns.map V.int) := .inl (.inr ⟨ob, at_⟩)
    have O : Only H := fun b => by
      by_cases h : b = a
      · subst h
        exact .inr ⟨_, _, at_⟩
      · exact .inl (off b h)
    refine law_from O S (fun b u z => ?_) (fun b z => ?_) (fun _ => hk) KX hns hb hbb hlim hg ha hr F hbind (hsp _ O S)
    · by_cases h : b = a
      · subst h
        rw [at_] at z
        cases z
        exact ⟨ha, by rw [List.length_map]; exact hl, vs, _, rv, ha⟩
      · rw [off b h] at z
        cases z
    · by_cases h : b = a
      · exact h
      · exact absurd (off b h) z
end
/-- as walk_of, for such a law -/
theorem walk_ofG {l : PySem.W.OpenLaw} {n k : Nat} {q : Program} {loose : List Str} {XP : (Str → Option Value) → Heap → Prop} {YP : World → Heap → Prop} {d : DefRec} {K : Params → PySem.W.Frag} {sp : World → Sp} {x : Str}
    (hn : l.most = some n) (hn2 : n ≤ sizeLine) (hdf : d.params.defaults = []) (hr : Room k callerA) (hY : ∀ (w : World) (h : Heap), YP w h → (K w.params).In h)
    (F : ∀ (w : World) (mg : Str → Option Value) (fa : Addr) (h : Heap), (K w.params).In h → h.Ns mainGlobals mg → mg d.name = some (.ref fa) →
      ∃ fd : FuncData, (∀ (s : Shared) (u : Value), BindsTo s fd ⟨[u], []⟩ [(x, u)]) ∧ ∀ base : Heap, (K w.params).In base → base.Ns mainGlobals mg → FnG l.prog w (K w.params) mg base k fa fd [x] (sp w))
    (hsp : ∀ (w : World) (H : Hp) (a : Addr) (ns : List Int), ns.length ≤ n → Only H → SqL (K w.params) H a (ns.map V.int) → sp w [.ref a] H (fun v _ => v = .bl true) fun _ _ _ => False) :
    PySem.W.WalkO q loose XP YP l.row.toRowW d [] (fun f vs => PySem.call f vs) := by
  refine Att.attach_call hn hdf ?_
  intro w s₀ s₁ mg mb fa o pm cd doc a vs ns G Y ho hd hcd hmg hobj hints hlen hg
  have KX := hY w _ Y
  obtain ⟨fd, hb, hF⟩ := F w mg fa _ KX G.T.g hmg
  exact law_callG KX G.T.g G.T.b G.T.builtins G.T.nolimit hg hobj hints (Nat.le_trans hlen hn2) hr hF hb fun H hO hS => hsp w H a ns hlen hO hS
end Kx
/-! The text by places, and what its top leaves. Made by mkbase.py. -/
namespace K14
open PySem PySem.Spec PyProof.Rows L2 Kx
def top (i : Nat) : Stmt := PySem.Challenge.pw_shownpart_k14_fact_errors.main.body.getD i (.Pass ⟨0, 0, 0, 0⟩)
abbrev s_preorder : Stmt := top 3
abbrev N_preorder : List Str := ["terms", "found", "waiting", "part"]
theorem sc_preorder : FnScope N_preorder ["terms"] (defScope s_preorder) := ⟨rfl, rfl, rfl, by decide +kernel, rfl, by decide +kernel, by decide +kernel⟩
abbrev s_written : Stmt := top 4
abbrev N_written : List Str := ["term", "words", "waiting", "part", "below"]
theorem sc_written : FnScope N_written ["term"] (defScope s_written) := ⟨rfl, rfl, rfl, by decide +kernel, rfl, by decide +kernel, by decide +kernel⟩
abbrev s_numbered : Stmt := top 5
abbrev N_numbered : List Str := ["parts"]
theorem sc_numbered : FnScope N_numbered ["parts"] (defScope s_numbered) := ⟨rfl, rfl, rfl, by decide +kernel, rfl, by decide +kernel, by decide +kernel⟩
abbrev s_numbered_rows : Stmt := top 6
abbrev N_numbered_rows : List Str := ["parts", "table", "ready", "numbers", "part", "below", "number", "_"]
theorem sc_numbered_rows : FnScope N_numbered_rows ["parts"] (defScope s_numbered_rows) := ⟨rfl, rfl, rfl, by decide +kernel, rfl, by decide +kernel, by decide +kernel⟩
abbrev s_sizes_of : Stmt := top 7
abbrev N_sizes_of : List Str := ["rows", "sizes", "row", "number"]
theorem sc_sizes_of : FnScope N_sizes_of ["rows"] (defScope s_sizes_of) := ⟨rfl, rfl, rfl, by decide +kernel, rfl, by decide +kernel, by decide +kernel⟩
abbrev s_put_in : Stmt := top 8
abbrev N_put_in : List Str := ["term", "old", "new", "many", "parts", "numbers", "ready", "k", "below", "_"]
theorem sc_put_in : FnScope N_put_in ["term", "old", "new"] (defScope s_put_in) := ⟨rfl, rfl, rfl, by decide +kernel, rfl, by decide +kernel, by decide +kernel⟩
abbrev s_with_names : Stmt := top 9
abbrev N_with_names : List Str := ["term", "names", "ready", "part", "below", "_"]
theorem sc_with_names : FnScope N_with_names ["term", "names"] (defScope s_with_names) := ⟨rfl, rfl, rfl, by decide +kernel, rfl, by decide +kernel, by decide +kernel⟩
abbrev s_ascending : Stmt := top 10
abbrev N_ascending : List Str := ["terms", "parts", "numbers", "rows", "found", "number", "part"]
theorem sc_ascending : FnScope N_ascending ["terms"] (defScope s_ascending) := ⟨rfl, rfl, rfl, by decide +kernel, rfl, by decide +kernel, by decide +kernel⟩
abbrev s_order_of : Stmt := top 11
abbrev N_order_of : List Str := ["rows", "texts", "row", "below", "found", "number", "text"]
theorem sc_order_of : FnScope N_order_of ["rows"] (defScope s_order_of) := ⟨rfl, rfl, rfl, by decide +kernel, rfl, by decide +kernel, by decide +kernel⟩
abbrev s_order_by_ranks : Stmt := top 12
abbrev N_order_by_ranks : List Str := ["rows", "number", "inner", "waiting", "numbers", "rank", "places", "found", "row", "k"]
theorem sc_order_by_ranks : FnScope N_order_by_ranks ["rows"] (defScope s_order_by_ranks) := ⟨rfl, rfl, rfl, by decide +kernel, rfl, by decide +kernel, by decide +kernel⟩
abbrev s_ranked : Stmt := top 13
abbrev N_ranked : List Str := ["names", "many", "width", "ranks", "further", "k"]
theorem sc_ranked : FnScope N_ranked ["names"] (defScope s_ranked) := ⟨rfl, rfl, rfl, by decide +kernel, rfl, by decide +kernel, by decide +kernel⟩
abbrev s_dense : Stmt := top 14
abbrev N_dense : List Str := ["keys", "ranks", "rank", "key"]
theorem sc_dense : FnScope N_dense ["keys"] (defScope s_dense) := ⟨rfl, rfl, rfl, by decide +kernel, rfl, by decide +kernel, by decide +kernel⟩
abbrev s_is_name : Stmt := top 25
abbrev N_is_name : List Str := ["value"]
theorem sc_is_name : FnScope N_is_name ["value"] (defScope s_is_name) := ⟨rfl, rfl, rfl, by decide +kernel, rfl, by decide +kernel, by decide +kernel⟩
abbrev s_is_term : Stmt := top 26
abbrev N_is_term : List Str := ["value"]
theorem sc_is_term : FnScope N_is_term ["value"] (defScope s_is_term) := ⟨rfl, rfl, rfl, by decide +kernel, rfl, by decide +kernel, by decide +kernel⟩
abbrev s_check_term : Stmt := top 27
abbrev N_check_term : List Str := ["value"]
theorem sc_check_term : FnScope N_check_term ["value"] (defScope s_check_term) := ⟨rfl, rfl, rfl, by decide +kernel, rfl, by decide +kernel, by decide +kernel⟩
abbrev s_check_renaming : Stmt := top 28
abbrev N_check_renaming : List Str := ["places", "names", "name"]
theorem sc_check_renaming : FnScope N_check_renaming ["places", "names"] (defScope s_check_renaming) := ⟨rfl, rfl, rfl, by decide +kernel, rfl, by decide +kernel, by decide +kernel⟩
abbrev s_joint_places : Stmt := top 29
abbrev N_joint_places : List Str := ["values", "places", "waiting", "part", "many"]
theorem sc_joint_places : FnScope N_joint_places ["values"] (defScope s_joint_places) := ⟨rfl, rfl, rfl, by decide +kernel, rfl, by decide +kernel, by decide +kernel⟩
abbrev s_has_form : Stmt := top 30
abbrev N_has_form : List Str := ["value"]
theorem sc_has_form : FnScope N_has_form ["value"] (defScope s_has_form) := ⟨rfl, rfl, rfl, by decide +kernel, rfl, by decide +kernel, by decide +kernel⟩
abbrev s_by_name : Stmt := top 31
abbrev N_by_name : List Str := ["places", "name"]
theorem sc_by_name : FnScope N_by_name ["places"] (defScope s_by_name) := ⟨rfl, rfl, rfl, by decide +kernel, rfl, by decide +kernel, by decide +kernel⟩
abbrev s_is_pair : Stmt := top 33
abbrev N_is_pair : List Str := ["value"]
theorem sc_is_pair : FnScope N_is_pair ["value"] (defScope s_is_pair) := ⟨rfl, rfl, rfl, by decide +kernel, rfl, by decide +kernel, by decide +kernel⟩
abbrev s_is_fact : Stmt := top 34
abbrev N_is_fact : List Str := ["value", "pairs", "keys", "pair", "key", "further"]
theorem sc_is_fact : FnScope N_is_fact ["value"] (defScope s_is_fact) := ⟨rfl, rfl, rfl, by decide +kernel, rfl, by decide +kernel, by decide +kernel⟩
abbrev s_make_pair : Stmt := top 35
abbrev N_make_pair : List Str := ["term", "other", "pairs"]
theorem sc_make_pair : FnScope N_make_pair ["term", "other"] (defScope s_make_pair) := ⟨rfl, rfl, rfl, by decide +kernel, rfl, by decide +kernel, by decide +kernel⟩
abbrev s_make_fact : Stmt := top 36
abbrev N_make_fact : List Str := ["conclusion", "conditions", "couples", "result"]
theorem sc_make_fact : FnScope N_make_fact ["conclusion", "conditions"] (defScope s_make_fact) := ⟨rfl, rfl, rfl, by decide +kernel, rfl, by decide +kernel, by decide +kernel⟩
abbrev s_places_in : Stmt := top 37
abbrev N_places_in : List Str := ["fact"]
theorem sc_places_in : FnScope N_places_in ["fact"] (defScope s_places_in) := ⟨rfl, rfl, rfl, by decide +kernel, rfl, by decide +kernel, by decide +kernel⟩
abbrev s_terms_of : Stmt := top 38
abbrev N_terms_of : List Str := ["fact", "terms", "term", "key"]
theorem sc_terms_of : FnScope N_terms_of ["fact"] (defScope s_terms_of) := ⟨rfl, rfl, rfl, by decide +kernel, rfl, by decide +kernel, by decide +kernel⟩
abbrev s_nodes_of : Stmt := top 39
abbrev N_nodes_of : List Str := ["fact"]
theorem sc_nodes_of : FnScope N_nodes_of ["fact"] (defScope s_nodes_of) := ⟨rfl, rfl, rfl, by decide +kernel, rfl, by decide +kernel, by decide +kernel⟩
abbrev s_cut : Stmt := top 40
abbrev N_cut : List Str := ["fact", "second", "rest", "result", "pair"]
theorem sc_cut : FnScope N_cut ["fact", "second"] (defScope s_cut) := ⟨rfl, rfl, rfl, by decide +kernel, rfl, by decide +kernel, by decide +kernel⟩
abbrev s_changed : Stmt := top 41
abbrev N_changed : List Str := ["fact", "old", "new", "couples", "conclusion", "one", "other"]
theorem sc_changed : FnScope N_changed ["fact", "old", "new"] (defScope s_changed) := ⟨rfl, rfl, rfl, by decide +kernel, rfl, by decide +kernel, by decide +kernel⟩
abbrev s_fact_renamed : Stmt := top 42
abbrev N_fact_renamed : List Str := ["fact", "names"]
theorem sc_fact_renamed : FnScope N_fact_renamed ["fact", "names"] (defScope s_fact_renamed) := ⟨rfl, rfl, rfl, by decide +kernel, rfl, by decide +kernel, by decide +kernel⟩
abbrev s_fact_renamed_by : Stmt := top 43
abbrev N_fact_renamed_by : List Str := ["fact", "names", "couples", "conclusion", "one", "other"]
theorem sc_fact_renamed_by : FnScope N_fact_renamed_by ["fact", "names"] (defScope s_fact_renamed_by) := ⟨rfl, rfl, rfl, by decide +kernel, rfl, by decide +kernel, by decide +kernel⟩
abbrev s_fact_text : Stmt := top 44
abbrev N_fact_text : List Str := ["fact", "end", "pair"]
theorem sc_fact_text : FnScope N_fact_text ["fact"] (defScope s_fact_text) := ⟨rfl, rfl, rfl, by decide +kernel, rfl, by decide +kernel, by decide +kernel⟩
abbrev s_check_fact : Stmt := top 45
abbrev N_check_fact : List Str := ["value"]
theorem sc_check_fact : FnScope N_check_fact ["value"] (defScope s_check_fact) := ⟨rfl, rfl, rfl, by decide +kernel, rfl, by decide +kernel, by decide +kernel⟩
abbrev s_is_couple : Stmt := top 46
abbrev N_is_couple : List Str := ["value"]
theorem sc_is_couple : FnScope N_is_couple ["value"] (defScope s_is_couple) := ⟨rfl, rfl, rfl, by decide +kernel, rfl, by decide +kernel, by decide +kernel⟩
abbrev s_are_couples : Stmt := top 47
abbrev N_are_couples : List Str := ["values", "value"]
theorem sc_are_couples : FnScope N_are_couples ["values"] (defScope s_are_couples) := ⟨rfl, rfl, rfl, by decide +kernel, rfl, by decide +kernel, by decide +kernel⟩
abbrev s_is_ordered : Stmt := top 48
abbrev N_is_ordered : List Str := ["couple", "one", "other"]
theorem sc_is_ordered : FnScope N_is_ordered ["couple"] (defScope s_is_ordered) := ⟨rfl, rfl, rfl, by decide +kernel, rfl, by decide +kernel, by decide +kernel⟩
abbrev s_key_of : Stmt := top 49
abbrev N_key_of : List Str := ["couple"]
theorem sc_key_of : FnScope N_key_of ["couple"] (defScope s_key_of) := ⟨rfl, rfl, rfl, by decide +kernel, rfl, by decide +kernel, by decide +kernel⟩
abbrev s_sides_of : Stmt := top 50
abbrev N_sides_of : List Str := ["couples", "couple", "term"]
theorem sc_sides_of : FnScope N_sides_of ["couples"] (defScope s_sides_of) := ⟨rfl, rfl, rfl, by decide +kernel, rfl, by decide +kernel, by decide +kernel⟩
abbrev s_pairs_in : Stmt := top 51
abbrev N_pairs_in : List Str := ["fact"]
theorem sc_pairs_in : FnScope N_pairs_in ["fact"] (defScope s_pairs_in) := ⟨rfl, rfl, rfl, by decide +kernel, rfl, by decide +kernel, by decide +kernel⟩
abbrev s_pairs_of : Stmt := top 52
abbrev N_pairs_of : List Str := ["couples", "found", "one", "other", "first", "second", "key"]
theorem sc_pairs_of : FnScope N_pairs_of ["couples"] (defScope s_pairs_of) := ⟨rfl, rfl, rfl, by decide +kernel, rfl, by decide +kernel, by decide +kernel⟩
abbrev s_fact_of : Stmt := top 53
abbrev N_fact_of : List Str := ["conclusion", "conditions", "pairs", "last"]
theorem sc_fact_of : FnScope N_fact_of ["conclusion", "conditions"] (defScope s_fact_of) := ⟨rfl, rfl, rfl, by decide +kernel, rfl, by decide +kernel, by decide +kernel⟩
abbrev s_says_nothing : Stmt := top 54
abbrev N_says_nothing : List Str := ["fact", "pair"]
theorem sc_says_nothing : FnScope N_says_nothing ["fact"] (defScope s_says_nothing) := ⟨rfl, rfl, rfl, by decide +kernel, rfl, by decide +kernel, by decide +kernel⟩
abbrev s__law_dice : Stmt := top 56
abbrev N__law_dice : List Str := ["script", "spot", "cell", "great", "mixed"]
theorem sc__law_dice : FnScope N__law_dice ["script", "spot"] (defScope s__law_dice) := ⟨rfl, rfl, rfl, by decide +kernel, rfl, by decide +kernel, by decide +kernel⟩
abbrev s__law_roll : Stmt := top 57
abbrev N__law_roll : List Str := ["dice", "top", "found", "one", "two"]
theorem sc__law_roll : FnScope N__law_roll ["dice", "top"] (defScope s__law_roll) := ⟨rfl, rfl, rfl, by decide +kernel, rfl, by decide +kernel, by decide +kernel⟩
abbrev s__law_pick : Stmt := top 58
abbrev N__law_pick : List Str := ["dice", "items"]
theorem sc__law_pick : FnScope N__law_pick ["dice", "items"] (defScope s__law_pick) := ⟨rfl, rfl, rfl, by decide +kernel, rfl, by decide +kernel, by decide +kernel⟩
abbrev s__law_error : Stmt := top 60
abbrev N__law_error : List Str := ["call", "e", "told"]
theorem sc__law_error : FnScope N__law_error ["call"] (defScope s__law_error) := ⟨rfl, rfl, rfl, by decide +kernel, rfl, by decide +kernel, by decide +kernel⟩
abbrev s__law_no_term : Stmt := top 61
abbrev N__law_no_term : List Str := ["dice", "odd"]
theorem sc__law_no_term : FnScope N__law_no_term ["dice"] (defScope s__law_no_term) := ⟨rfl, rfl, rfl, by decide +kernel, rfl, by decide +kernel, by decide +kernel⟩
abbrev s__law_no_fact : Stmt := top 62
abbrev N__law_no_fact : List Str := ["dice", "one", "other", "odd"]
theorem sc__law_no_fact : FnScope N__law_no_fact ["dice"] (defScope s__law_no_fact) := ⟨rfl, rfl, rfl, by decide +kernel, rfl, by decide +kernel, by decide +kernel⟩
abbrev s__law_no_names : Stmt := top 63
abbrev N__law_no_names : List Str := ["dice", "odd"]
theorem sc__law_no_names : FnScope N__law_no_names ["dice"] (defScope s__law_no_names) := ⟨rfl, rfl, rfl, by decide +kernel, rfl, by decide +kernel, by decide +kernel⟩
abbrev s__law_errors : Stmt := top 64
abbrev N__law_errors : List Str := ["calls", "call"]
theorem sc__law_errors : FnScope N__law_errors ["calls"] (defScope s__law_errors) := ⟨rfl, rfl, rfl, by decide +kernel, rfl, by decide +kernel, by decide +kernel⟩
abbrev s__law_case_right : Stmt := top 65
abbrev N__law_case_right : List Str := ["dice", "calls", "bad", "fact", "low", "mid", "odd", "other", "wrong"]
theorem sc__law_case_right : FnScope N__law_case_right ["dice"] (defScope s__law_case_right) := ⟨rfl, rfl, rfl, by decide +kernel, rfl, by decide +kernel, by decide +kernel⟩
abbrev s_law : Stmt := top 66
abbrev N_law : List Str := ["script", "at", "dice", "turn", "calls", "fact", "low", "mid", "top"]
theorem sc_law : FnScope N_law ["script"] (defScope s_law) := ⟨rfl, rfl, rfl, by decide +kernel, rfl, by decide +kernel, by decide +kernel⟩
/-- what the top leaves -/
structure Tx (K : PySem.W.Frag) (mg : Str → Option Value) where
  b_abs : mg "abs" = none
  b_all : mg "all" = none
  b_dict : mg "dict" = none
  b_enumerate : mg "enumerate" = none
  b_int : mg "int" = none
  b_isinstance : mg "isinstance" = none
  b_len : mg "len" = none
  b_list : mg "list" = none
  b_max : mg "max" = none
  b_min : mg "min" = none
  b_range : mg "range" = none
  b_set : mg "set" = none
  b_sorted : mg "sorted" = none
  b_str : mg "str" = none
  b_sum : mg "sum" = none
  b_tuple : mg "tuple" = none
  b_zip : mg "zip" = none
  CInvalidName : Addr
  gInvalidName : mg "InvalidName" = some (.ref CInvalidName)
  xInvalidName : PySem.W.excIn K CInvalidName [.type "ValueError", .type "Exception", .type "BaseException", .type "object"] "ValueError.__new__" = true
  kInvalidName : PySem.W.keepIn K (.ref CInvalidName) = true
  bInvalidName : PySem.W.subIn K (.ref CInvalidName) (.type "BaseException") = some true
  tInvalidName : PySem.W.typeIn K (.ref CInvalidName) = some (.type "type")
  eInvalidName : PySem.W.exmOne K (.ref CInvalidName) (.ref CInvalidName) = some true
  CInvalidTerm : Addr
  gInvalidTerm : mg "InvalidTerm" = some (.ref CInvalidTerm)
  xInvalidTerm : PySem.W.excIn K CInvalidTerm [.type "ValueError", .type "Exception", .type "BaseException", .type "object"] "ValueError.__new__" = true
  kInvalidTerm : PySem.W.keepIn K (.ref CInvalidTerm) = true
  bInvalidTerm : PySem.W.subIn K (.ref CInvalidTerm) (.type "BaseException") = some true
  tInvalidTerm : PySem.W.typeIn K (.ref CInvalidTerm) = some (.type "type")
  eInvalidTerm : PySem.W.exmOne K (.ref CInvalidTerm) (.ref CInvalidTerm) = some true
  CInvalidFact : Addr
  gInvalidFact : mg "InvalidFact" = some (.ref CInvalidFact)
  xInvalidFact : PySem.W.excIn K CInvalidFact [.type "ValueError", .type "Exception", .type "BaseException", .type "object"] "ValueError.__new__" = true
  kInvalidFact : PySem.W.keepIn K (.ref CInvalidFact) = true
  bInvalidFact : PySem.W.subIn K (.ref CInvalidFact) (.type "BaseException") = some true
  tInvalidFact : PySem.W.typeIn K (.ref CInvalidFact) = some (.type "type")
  eInvalidFact : PySem.W.exmOne K (.ref CInvalidFact) (.ref CInvalidFact) = some true
  CInvalidOperation : Addr
  gInvalidOperation : mg "InvalidOperation" = some (.ref CInvalidOperation)
  xInvalidOperation : PySem.W.excIn K CInvalidOperation [.type "ValueError", .type "Exception", .type "BaseException", .type "object"] "ValueError.__new__" = true
  kInvalidOperation : PySem.W.keepIn K (.ref CInvalidOperation) = true
  bInvalidOperation : PySem.W.subIn K (.ref CInvalidOperation) (.type "BaseException") = some true
  tInvalidOperation : PySem.W.typeIn K (.ref CInvalidOperation) = some (.type "type")
  eInvalidOperation : PySem.W.exmOne K (.ref CInvalidOperation) (.ref CInvalidOperation) = some true
  CPartError : Addr
  gPartError : mg "PartError" = some (.ref CPartError)
  CParseError : Addr
  gParseError : mg "ParseError" = some (.ref CParseError)
  c_FIRST_WIDTH : ∃ t, mg "FIRST_WIDTH" = some (.int 16 t)
  c_MANY_PARTS : ∃ t, mg "MANY_PARTS" = some (.int 100000 t)
  c_MAX_PLACES : ∃ t, mg "MAX_PLACES" = some (.int 3 t)
  c_LONGEST_NAME : ∃ t, mg "LONGEST_NAME" = some (.int 8 t)
  apreorder : Addr
  dpreorder : FuncData
  fpreorder : Fun K "preorder" "preorder" s_preorder apreorder dpreorder
  npreorder : Binds K dpreorder ["terms"] []
  gpreorder : mg "preorder" = some (.ref apreorder)
  awritten : Addr
  dwritten : FuncData
  fwritten : Fun K "written" "written" s_written awritten dwritten
  nwritten : Binds K dwritten ["term"] []
  gwritten : mg "written" = some (.ref awritten)
  anumbered : Addr
  dnumbered : FuncData
  fnumbered : Fun K "numbered" "numbered" s_numbered anumbered dnumbered
  nnumbered : Binds K dnumbered ["parts"] []
  gnumbered : mg "numbered" = some (.ref anumbered)
  anumbered_rows : Addr
  dnumbered_rows : FuncData
  fnumbered_rows : Fun K "numbered_rows" "numbered_rows" s_numbered_rows anumbered_rows dnumbered_rows
  nnumbered_rows : Binds K dnumbered_rows ["parts"] []
  gnumbered_rows : mg "numbered_rows" = some (.ref anumbered_rows)
  asizes_of : Addr
  dsizes_of : FuncData
  fsizes_of : Fun K "sizes_of" "sizes_of" s_sizes_of asizes_of dsizes_of
  nsizes_of : Binds K dsizes_of ["rows"] []
  gsizes_of : mg "sizes_of" = some (.ref asizes_of)
  aput_in : Addr
  dput_in : FuncData
  fput_in : Fun K "put_in" "put_in" s_put_in aput_in dput_in
  nput_in : Binds K dput_in ["term", "old", "new"] []
  gput_in : mg "put_in" = some (.ref aput_in)
  awith_names : Addr
  dwith_names : FuncData
  fwith_names : Fun K "with_names" "with_names" s_with_names awith_names dwith_names
  nwith_names : Binds K dwith_names ["term", "names"] []
  gwith_names : mg "with_names" = some (.ref awith_names)
  aascending : Addr
  dascending : FuncData
  fascending : Fun K "ascending" "ascending" s_ascending aascending dascending
  nascending : Binds K dascending ["terms"] []
  gascending : mg "ascending" = some (.ref aascending)
  aorder_of : Addr
  dorder_of : FuncData
  forder_of : Fun K "order_of" "order_of" s_order_of aorder_of dorder_of
  norder_of : Binds K dorder_of ["rows"] []
  gorder_of : mg "order_of" = some (.ref aorder_of)
  aorder_by_ranks : Addr
  dorder_by_ranks : FuncData
  forder_by_ranks : Fun K "order_by_ranks" "order_by_ranks" s_order_by_ranks aorder_by_ranks dorder_by_ranks
  norder_by_ranks : Binds K dorder_by_ranks ["rows"] []
  gorder_by_ranks : mg "order_by_ranks" = some (.ref aorder_by_ranks)
  aranked : Addr
  dranked : FuncData
  franked : Fun K "ranked" "ranked" s_ranked aranked dranked
  nranked : Binds K dranked ["names"] []
  granked : mg "ranked" = some (.ref aranked)
  adense : Addr
  ddense : FuncData
  fdense : Fun K "dense" "dense" s_dense adense ddense
  ndense : Binds K ddense ["keys"] []
  gdense : mg "dense" = some (.ref adense)
  ais_name : Addr
  dis_name : FuncData
  fis_name : Fun K "is_name" "is_name" s_is_name ais_name dis_name
  nis_name : Binds K dis_name ["value"] []
  gis_name : mg "is_name" = some (.ref ais_name)
  ais_term : Addr
  dis_term : FuncData
  fis_term : Fun K "is_term" "is_term" s_is_term ais_term dis_term
  nis_term : Binds K dis_term ["value"] []
  gis_term : mg "is_term" = some (.ref ais_term)
  acheck_term : Addr
  dcheck_term : FuncData
  fcheck_term : Fun K "check_term" "check_term" s_check_term acheck_term dcheck_term
  ncheck_term : Binds K dcheck_term ["value"] []
  gcheck_term : mg "check_term" = some (.ref acheck_term)
  acheck_renaming : Addr
  dcheck_renaming : FuncData
  fcheck_renaming : Fun K "check_renaming" "check_renaming" s_check_renaming acheck_renaming dcheck_renaming
  ncheck_renaming : Binds K dcheck_renaming ["places", "names"] []
  gcheck_renaming : mg "check_renaming" = some (.ref acheck_renaming)
  ajoint_places : Addr
  djoint_places : FuncData
  fjoint_places : Fun K "joint_places" "joint_places" s_joint_places ajoint_places djoint_places
  njoint_places : Binds K djoint_places ["values"] []
  gjoint_places : mg "joint_places" = some (.ref ajoint_places)
  ahas_form : Addr
  dhas_form : FuncData
  fhas_form : Fun K "has_form" "has_form" s_has_form ahas_form dhas_form
  nhas_form : Binds K dhas_form ["value"] []
  ghas_form : mg "has_form" = some (.ref ahas_form)
  aby_name : Addr
  dby_name : FuncData
  fby_name : Fun K "by_name" "by_name" s_by_name aby_name dby_name
  nby_name : Binds K dby_name ["places"] []
  gby_name : mg "by_name" = some (.ref aby_name)
  ais_pair : Addr
  dis_pair : FuncData
  fis_pair : Fun K "is_pair" "is_pair" s_is_pair ais_pair dis_pair
  nis_pair : Binds K dis_pair ["value"] []
  gis_pair : mg "is_pair" = some (.ref ais_pair)
  ais_fact : Addr
  dis_fact : FuncData
  fis_fact : Fun K "is_fact" "is_fact" s_is_fact ais_fact dis_fact
  nis_fact : Binds K dis_fact ["value"] []
  gis_fact : mg "is_fact" = some (.ref ais_fact)
  amake_pair : Addr
  dmake_pair : FuncData
  fmake_pair : Fun K "make_pair" "make_pair" s_make_pair amake_pair dmake_pair
  nmake_pair : Binds K dmake_pair ["term", "other"] []
  gmake_pair : mg "make_pair" = some (.ref amake_pair)
  amake_fact : Addr
  dmake_fact : FuncData
  fmake_fact : Fun K "make_fact" "make_fact" s_make_fact amake_fact dmake_fact
  gmake_fact : mg "make_fact" = some (.ref amake_fact)
  aplaces_in : Addr
  dplaces_in : FuncData
  fplaces_in : Fun K "places_in" "places_in" s_places_in aplaces_in dplaces_in
  nplaces_in : Binds K dplaces_in ["fact"] []
  gplaces_in : mg "places_in" = some (.ref aplaces_in)
  aterms_of : Addr
  dterms_of : FuncData
  fterms_of : Fun K "terms_of" "terms_of" s_terms_of aterms_of dterms_of
  nterms_of : Binds K dterms_of ["fact"] []
  gterms_of : mg "terms_of" = some (.ref aterms_of)
  anodes_of : Addr
  dnodes_of : FuncData
  fnodes_of : Fun K "nodes_of" "nodes_of" s_nodes_of anodes_of dnodes_of
  nnodes_of : Binds K dnodes_of ["fact"] []
  gnodes_of : mg "nodes_of" = some (.ref anodes_of)
  acut : Addr
  dcut : FuncData
  fcut : Fun K "cut" "cut" s_cut acut dcut
  ncut : Binds K dcut ["fact", "second"] []
  gcut : mg "cut" = some (.ref acut)
  achanged : Addr
  dchanged : FuncData
  fchanged : Fun K "changed" "changed" s_changed achanged dchanged
  nchanged : Binds K dchanged ["fact", "old", "new"] []
  gchanged : mg "changed" = some (.ref achanged)
  afact_renamed : Addr
  dfact_renamed : FuncData
  ffact_renamed : Fun K "fact_renamed" "fact_renamed" s_fact_renamed afact_renamed dfact_renamed
  gfact_renamed : mg "fact_renamed" = some (.ref afact_renamed)
  afact_renamed_by : Addr
  dfact_renamed_by : FuncData
  ffact_renamed_by : Fun K "fact_renamed_by" "fact_renamed_by" s_fact_renamed_by afact_renamed_by dfact_renamed_by
  nfact_renamed_by : Binds K dfact_renamed_by ["fact", "names"] []
  gfact_renamed_by : mg "fact_renamed_by" = some (.ref afact_renamed_by)
  afact_text : Addr
  dfact_text : FuncData
  ffact_text : Fun K "fact_text" "fact_text" s_fact_text afact_text dfact_text
  nfact_text : Binds K dfact_text ["fact"] []
  gfact_text : mg "fact_text" = some (.ref afact_text)
  acheck_fact : Addr
  dcheck_fact : FuncData
  fcheck_fact : Fun K "check_fact" "check_fact" s_check_fact acheck_fact dcheck_fact
  ncheck_fact : Binds K dcheck_fact ["value"] []
  gcheck_fact : mg "check_fact" = some (.ref acheck_fact)
  ais_couple : Addr
  dis_couple : FuncData
  fis_couple : Fun K "is_couple" "is_couple" s_is_couple ais_couple dis_couple
  nis_couple : Binds K dis_couple ["value"] []
  gis_couple : mg "is_couple" = some (.ref ais_couple)
  aare_couples : Addr
  dare_couples : FuncData
  fare_couples : Fun K "are_couples" "are_couples" s_are_couples aare_couples dare_couples
  nare_couples : Binds K dare_couples ["values"] []
  gare_couples : mg "are_couples" = some (.ref aare_couples)
  ais_ordered : Addr
  dis_ordered : FuncData
  fis_ordered : Fun K "is_ordered" "is_ordered" s_is_ordered ais_ordered dis_ordered
  nis_ordered : Binds K dis_ordered ["couple"] []
  gis_ordered : mg "is_ordered" = some (.ref ais_ordered)
  akey_of : Addr
  dkey_of : FuncData
  fkey_of : Fun K "key_of" "key_of" s_key_of akey_of dkey_of
  nkey_of : Binds K dkey_of ["couple"] []
  gkey_of : mg "key_of" = some (.ref akey_of)
  asides_of : Addr
  dsides_of : FuncData
  fsides_of : Fun K "sides_of" "sides_of" s_sides_of asides_of dsides_of
  nsides_of : Binds K dsides_of ["couples"] []
  gsides_of : mg "sides_of" = some (.ref asides_of)
  apairs_in : Addr
  dpairs_in : FuncData
  fpairs_in : Fun K "pairs_in" "pairs_in" s_pairs_in apairs_in dpairs_in
  npairs_in : Binds K dpairs_in ["fact"] []
  gpairs_in : mg "pairs_in" = some (.ref apairs_in)
  apairs_of : Addr
  dpairs_of : FuncData
  fpairs_of : Fun K "pairs_of" "pairs_of" s_pairs_of apairs_of dpairs_of
  npairs_of : Binds K dpairs_of ["couples"] []
  gpairs_of : mg "pairs_of" = some (.ref apairs_of)
  afact_of : Addr
  dfact_of : FuncData
  ffact_of : Fun K "fact_of" "fact_of" s_fact_of afact_of dfact_of
  nfact_of : Binds K dfact_of ["conclusion", "conditions"] []
  gfact_of : mg "fact_of" = some (.ref afact_of)
  asays_nothing : Addr
  dsays_nothing : FuncData
  fsays_nothing : Fun K "says_nothing" "says_nothing" s_says_nothing asays_nothing dsays_nothing
  nsays_nothing : Binds K dsays_nothing ["fact"] []
  gsays_nothing : mg "says_nothing" = some (.ref asays_nothing)
  a_law_dice : Addr
  d_law_dice : FuncData
  f_law_dice : Fun K "_law_dice" "_law_dice" s__law_dice a_law_dice d_law_dice
  n_law_dice : Binds K d_law_dice ["script", "spot"] []
  g_law_dice : mg "_law_dice" = some (.ref a_law_dice)
  a_law_roll : Addr
  d_law_roll : FuncData
  f_law_roll : Fun K "_law_roll" "_law_roll" s__law_roll a_law_roll d_law_roll
  n_law_roll : Binds K d_law_roll ["dice", "top"] []
  g_law_roll : mg "_law_roll" = some (.ref a_law_roll)
  a_law_pick : Addr
  d_law_pick : FuncData
  f_law_pick : Fun K "_law_pick" "_law_pick" s__law_pick a_law_pick d_law_pick
  n_law_pick : Binds K d_law_pick ["dice", "items"] []
  g_law_pick : mg "_law_pick" = some (.ref a_law_pick)
  a_law_error : Addr
  d_law_error : FuncData
  f_law_error : Fun K "_law_error" "_law_error" s__law_error a_law_error d_law_error
  n_law_error : Binds K d_law_error ["call"] []
  g_law_error : mg "_law_error" = some (.ref a_law_error)
  a_law_no_term : Addr
  d_law_no_term : FuncData
  f_law_no_term : Fun K "_law_no_term" "_law_no_term" s__law_no_term a_law_no_term d_law_no_term
  n_law_no_term : Binds K d_law_no_term ["dice"] []
  g_law_no_term : mg "_law_no_term" = some (.ref a_law_no_term)
  a_law_no_fact : Addr
  d_law_no_fact : FuncData
  f_law_no_fact : Fun K "_law_no_fact" "_law_no_fact" s__law_no_fact a_law_no_fact d_law_no_fact
  n_law_no_fact : Binds K d_law_no_fact ["dice"] []
  g_law_no_fact : mg "_law_no_fact" = some (.ref a_law_no_fact)
  a_law_no_names : Addr
  d_law_no_names : FuncData
  f_law_no_names : Fun K "_law_no_names" "_law_no_names" s__law_no_names a_law_no_names d_law_no_names
  n_law_no_names : Binds K d_law_no_names ["dice"] []
  g_law_no_names : mg "_law_no_names" = some (.ref a_law_no_names)
  a_law_errors : Addr
  d_law_errors : FuncData
  f_law_errors : Fun K "_law_errors" "_law_errors" s__law_errors a_law_errors d_law_errors
  n_law_errors : Binds K d_law_errors ["calls"] []
  g_law_errors : mg "_law_errors" = some (.ref a_law_errors)
  a_law_case_right : Addr
  d_law_case_right : FuncData
  f_law_case_right : Fun K "_law_case_right" "_law_case_right" s__law_case_right a_law_case_right d_law_case_right
  n_law_case_right : Binds K d_law_case_right ["dice"] []
  g_law_case_right : mg "_law_case_right" = some (.ref a_law_case_right)
  alaw : Addr
  dlaw : FuncData
  flaw : Fun K "law" "law" s_law alaw dlaw
  nlaw : Binds K dlaw ["script"] []
  glaw : mg "law" = some (.ref alaw)
end K14
/-! Data at addresses, its text, its order. -/
namespace Kx
open PySem PySem.Spec PyProof.Rows L2
/-- a key as data -/
def keyD : Key → PyData
  | .inl i => .int i
  | .inr x => .str x
/-- the pairs of a dict as data; the values are flat -/
inductive KvD : List (Key × V) → List (PyData × PyData) → Prop
  | nil : KvD [] []
  | int {k : Key} {i : Int} {r : List (Key × V)} {ds : List (PyData × PyData)} : KvD r ds → KvD ((k, .int i) :: r) ((keyD k, .int i) :: ds)
  | str {k : Key} {x : Str} {r : List (Key × V)} {ds : List (PyData × PyData)} : KvD r ds → KvD ((k, .str x) :: r) ((keyD k, .str x) :: ds)
mutual
/-- v stands for the data d: as Dp, and dicts -/
inductive Dx (K : PySem.W.Frag) (H : Hp) : V → PyData → Prop
  | non : Dx K H .non .none
  | bl (b : Bool) : Dx K H (.bl b) (.bool b)
  | int (i : Int) : Dx K H (.int i) (.int i)
  | str (x : Str) : Dx K H (.str x) (.str x)
  | lst {a : Addr} {xs : List V} {ds : List PyData} : H a = some (.lst xs) → DxAll K H xs ds → Dx K H (.ref a) (.list ds)
  | tup {a : Addr} {xs : List V} {ds : List PyData} : H a = some (.tup xs) → DxAll K H xs ds → Dx K H (.ref a) (.tuple ds)
  | dic {a : Addr} {kvs : List (Key × V)} {ds : List (PyData × PyData)} : H a = some (.dK kvs) → KvD kvs ds → Dx K H (.ref a) (.dict ds)
inductive DxAll (K : PySem.W.Frag) (H : Hp) : List V → List PyData → Prop
  | nil : DxAll K H [] []
  | cons {v : V} {vs : List V} {d : PyData} {ds : List PyData} : Dx K H v d → DxAll K H vs ds → DxAll K H (v :: vs) (d :: ds)
end
section
variable {K : PySem.W.Frag} {H H' : Hp}
theorem Same.tup {a : Addr} {xs : List V} (e : Same H H') (h : SqT K H a xs) : SqT K H' a xs := by
  rcases h with (h | ⟨o, h⟩) | h
  · exact .inl (.inl (e _ _ h))
  · exact .inl (.inr ⟨o, e _ _ h⟩)
  · exact .inr h
mutual
theorem Dx.up (e : Same H H') : ∀ {d : PyData} {v : V}, Dx K H v d → Dx K H' v d
  | .none, _, h => by cases h; exact .non
  | .bool b, _, h => by cases h; exact .bl b
  | .int i, _, h => by cases h; exact .int i
  | .str x, _, h => by cases h; exact .str x
  | .list ds, _, h => by cases h with | lst a b => exact .lst (e _ _ a) (DxAll.up e b)
  | .tuple ds, _, h => by cases h with | tup a b => exact .tup (e _ _ a) (DxAll.up e b)
  | .dict ds, _, h => by cases h with | dic a b => exact .dic (e _ _ a) b
theorem DxAll.up (e : Same H H') : ∀ {ds : List PyData} {vs : List V}, DxAll K H vs ds → DxAll K H' vs ds
  | [], _, h => by cases h; exact .nil
  | d :: ds, _, h => by cases h with | cons a b => exact .cons (Dx.up e a) (DxAll.up e b)
end
mutual
/-- data without dicts -/
theorem Dx.dp : ∀ {d : PyData} {v : V}, d.hasDict = false → Dx K H v d → Dp K H v d
  | .none, _, _, h => by cases h; exact .non
  | .bool b, _, _, h => by cases h; exact .bl b
  | .int i, _, _, h => by cases h; exact .int i
  | .str x, _, _, h => by cases h; exact .str x
  | .list ds, _, z, h => by cases h with | lst a b => exact .lst (.inl (.inl a)) (DxAll.dp (by simpa [PyData.hasDict] using z) b)
  | .tuple ds, _, z, h => by cases h with | tup a b => exact .tup (.inl (.inl a)) (DxAll.dp (by simpa [PyData.hasDict] using z) b)
  | .dict ds, _, z, h => by simp [PyData.hasDict] at z
theorem DxAll.dp : ∀ {ds : List PyData} {vs : List V}, PyData.hasDictAll ds = false → DxAll K H vs ds → DpAll K H vs ds
  | [], _, _, h => by cases h; exact .nil
  | d :: ds, _, z, h => by
    cases h with
    | cons a b =>
      have z' : d.hasDict = false ∧ PyData.hasDictAll ds = false := by simpa [PyData.hasDictAll] using z
      exact .cons (Dx.dp z'.1 a) (DxAll.dp z'.2 b)
end
theorem DxAll.length : ∀ {vs : List V} {ds : List PyData}, DxAll K H vs ds → vs.length = ds.length
  | _, _, .nil => rfl
  | _, _, .cons _ t => by rw [List.length_cons, List.length_cons, DxAll.length t]
theorem DxAll.append : ∀ {vs us : List V} {ds es : List PyData}, DxAll K H vs ds → DxAll K H us es → DxAll K H (vs ++ us) (ds ++ es)
  | _, _, _, _, .nil, h => h
  | _, _, _, _, .cons a t, h => .cons a (DxAll.append t h)
theorem DxAll.get : ∀ {vs : List V} {ds : List PyData} {i : Nat} {d : PyData}, DxAll K H vs ds → ds[i]? = some d → ∃ v, vs[i]? = some v ∧ Dx K H v d
  | _, _, _, _, .nil, h => by simp at h
  | _, _, 0, _, .cons a _, h => by
    simp at h
    subst h
    exact ⟨_, rfl, a⟩
  | _, _, i + 1, _, .cons _ t, h => by
    obtain ⟨v, e, x⟩ := DxAll.get (i := i) t (by simpa using h)
    exact ⟨v, by simpa using e, x⟩
theorem DxAll.take : ∀ {vs : List V} {ds : List PyData} (i : Nat), DxAll K H vs ds → DxAll K H (vs.take i) (ds.take i)
  | _, _, 0, _ => .nil
  | _, _, _ + 1, .nil => .nil
  | _, _, i + 1, .cons a t => .cons a (DxAll.take i t)
theorem DxAll.drop : ∀ {vs : List V} {ds : List PyData} (i : Nat), DxAll K H vs ds → DxAll K H (vs.drop i) (ds.drop i)
  | _, _, 0, h => h
  | _, _, _ + 1, .nil => .nil
  | _, _, i + 1, .cons _ t => DxAll.drop i t
end
/-- the class of data -/
def tyD : PyData → String
  | .none => "NoneType"
  | .bool _ => "bool"
  | .int _ => "int"
  | .str _ => "str"
  | .list _ => "list"
  | .tuple _ => "tuple"
  | .dict _ => "dict"
theorem Dx.ty {K : PySem.W.Frag} {H : Hp} {d : PyData} {v : V} (h : Dx K H v d) : TyX K H v (.type (tyD d)) := by
  cases h with
  | non => exact .base .non
  | bl b => exact .base (.bl b)
  | int i => exact .base (.int i)
  | str x => exact .base (.str x)
  | lst a _ => exact .base (.lst a)
  | tup a _ => exact .base (.tup a)
  | dic a _ => exact .base (.dK a)
mutual
/-- no list within -/
def noL : PyData → Bool
  | .list _ => false
  | .tuple ds => noLs ds
  | _ => true
def noLs : List PyData → Bool
  | [] => true
  | d :: ds => noL d && noLs ds
end
section
variable {X : Cx} {pins : List (Addr × Obj)} {σ : L2.St} {H : Hp} {s : Shared}
theorem kv_reads {P : Program} {w : World} {h : Heap} : ∀ {kvs : List (Key × V)} {ds : List (PyData × PyData)} {vs : List (Key × Value)} {es : List DictEntry}, KvD kvs ds → KV kvs vs → Pairs (mixKind P w) es vs →
    ReadsAll h (es.map (·.key)) (ds.map (·.1)) [] ∧ ReadsAll h (es.map (·.val)) (ds.map (·.2)) []
  | _, _, _, _, .nil, r, p => by
    cases r
    cases p
    exact ⟨.nil, .nil⟩
  | _, _, _, _, .int (k := k) (i := i) t, r, p => by
    cases r with
    | cons r0 rt =>
      cases p with
      | cons p1 p2 pt =>
        obtain ⟨a, b⟩ := kv_reads (h := h) t rt pt
        obtain ⟨r1, tk, r2⟩ := r0
        refine ⟨ReadsAll.cons (as := []) (bs := []) ?_ a, ReadsAll.cons (as := []) (bs := []) ?_ b⟩
        · rw [← r1] at p1
          rcases keyIs_shape p1 with ⟨j, u, rfl, ee⟩ | ⟨x, u, rfl, ee⟩
          · dsimp only; rw [ee]; exact Reads.int j u
          · dsimp only; rw [ee]; exact Reads.str x u
        · dsimp only
          rw [p2, r2]
          exact Reads.int i tk
  | _, _, _, _, .str (k := k) (x := i) t, r, p => by
    cases r with
    | cons r0 rt =>
      cases p with
      | cons p1 p2 pt =>
        obtain ⟨a, b⟩ := kv_reads (h := h) t rt pt
        obtain ⟨r1, tk, r2⟩ := r0
        refine ⟨ReadsAll.cons (as := []) (bs := []) ?_ a, ReadsAll.cons (as := []) (bs := []) ?_ b⟩
        · rw [← r1] at p1
          rcases keyIs_shape p1 with ⟨j, u, rfl, ee⟩ | ⟨x, u, rfl, ee⟩
          · dsimp only; rw [ee]; exact Reads.int j u
          · dsimp only; rw [ee]; exact Reads.str x u
        · dsimp only
          rw [p2, r2]
          exact Reads.str i tk
mutual
theorem Dx.reads (I : Inv X pins σ H s) : ∀ (d : PyData) (v : V) (u : Value), Dx X.K H v d → RelV v u → ∃ as, Reads s.heap u d as ∧ (noL d = true → sysModules ∉ as)
  | .none, _, _, h, r => by
    cases h
    cases r
    exact ⟨_, Reads.none, fun _ => by simp⟩
  | .bool b, _, _, h, r => by
    cases h
    cases r
    exact ⟨_, Reads.bool b, fun _ => by simp⟩
  | .int i, _, _, h, r => by
    cases h
    obtain ⟨t, rfl⟩ := r
    exact ⟨_, Reads.int i t, fun _ => by simp⟩
  | .str x, _, _, h, r => by
    cases h
    obtain ⟨t, rfl⟩ := r
    exact ⟨_, Reads.str x t, fun _ => by simp⟩
  | .list ds, _, _, h, r => by
    cases h with
    | lst hs ha =>
      cases r
      obtain ⟨its, rv, ⟨o, n, ho, hc, _, hd⟩, _⟩ := I.list (SqL.of hs)
      obtain ⟨as, hr, _⟩ := DxAll.reads I ds _ its ha rv
      exact ⟨_, Reads.list ho hc hd hr, fun z => by simp [noL] at z⟩
  | .tuple ds, _, _, h, r => by
    cases h with
    | tup hs ha =>
      cases r
      obtain ⟨its, rv, ⟨o, ho, hc, n, hd⟩, _⟩ := I.tuple (SqT.of hs)
      obtain ⟨as, hr, z⟩ := DxAll.reads I ds _ its ha rv
      exact ⟨_, Reads.tuple ho hc hd hr, fun q => z (by simpa [noL] using q)⟩
  | .dict ds, _, _, h, r => by
    cases h with
    | dic hs ha =>
      cases r
      obtain ⟨_, ns, vs, rv, o, es, ep, h1, h2, h3, h4, h5, h6⟩ := I.hok _ _ hs
      obtain ⟨q1, q2⟩ := kv_reads (h := s.heap) ha rv h5
      refine ⟨_, Reads.dict h1 h2.1 h3 q1 q2, fun _ => ?_⟩
      have ne : ¬ _ = sysModules := beq_eq_false_iff_ne.mp ns
      simp only [List.append_nil, List.mem_singleton]
      exact fun e => ne e.symm
theorem DxAll.reads (I : Inv X pins σ H s) : ∀ (ds : List PyData) (vs : List V) (us : List Value), DxAll X.K H vs ds → Vals vs us → ∃ as, ReadsAll s.heap us ds as ∧ (noLs ds = true → sysModules ∉ as)
  | [], _, _, h, r => by
    cases h
    cases r
    exact ⟨_, ReadsAll.nil, fun _ => by simp⟩
  | d :: ds, _, _, h, r => by
    cases h with
    | cons h1 h2 =>
      cases r with
      | cons r1 r2 =>
        obtain ⟨as, q1, z1⟩ := Dx.reads I d _ _ h1 r1
        obtain ⟨bs, q2, z2⟩ := DxAll.reads I ds _ _ h2 r2
        refine ⟨_, ReadsAll.cons q1 q2, fun z => ?_⟩
        have z' : noL d = true ∧ noLs ds = true := by simpa [noLs] using z
        simp only [List.mem_append, not_or]
        exact ⟨z1 z'.1, z2 z'.2⟩
end
end
section
variable {X : Cx}
/-- repr(x) of data, where nothing around shows itself -/
def rRepr (K : PySem.W.Frag) : List V → Hp → VK → Prop := fun xs H Q => ∃ x d, xs = [x] ∧ Dx K H x d ∧ d.showable = true ∧ (d.hasDict = true → noL d = true) ∧ d.depth ≤ 60 ∧ d.shown.length + 64 ≤ sizeLine ∧ Q (.str d.shown) H
theorem cr_repr (cm : Calm X.A) (hu : X.A.units + 64 < cLine) : CallR X (.builtin "repr") (rRepr X.K) := by
  intro pins s σ H xs us Q I rv h
  obtain ⟨x, d, rfl, hx, sh, hd, dp, sz, q⟩ := h
  obtain ⟨u, rfl, ru⟩ := rv.one
  obtain ⟨as, rd, ns⟩ := Dx.reads I d x u hx ru
  cases rd with
  | none => exact PySem.P.repr_of_none ⟨.str _, H, I.tok _, ⟨_, rfl⟩, q⟩
  | bool b => exact PySem.P.repr_of_bool ⟨.str _, H, I.tok _, ⟨_, rfl⟩, by simpa [PyData.shown] using q⟩
  | int i t => exact PySem.P.repr_of_int (by simpa [PyData.showable] using sh) ⟨.str _, H, I.tok _, ⟨_, rfl⟩, q⟩
  | str z t => exact PySem.P.repr_of_str ⟨.str _, H, I.tok _, ⟨_, rfl⟩, q⟩ (Nat.le_trans (Nat.le_add_right _ 64) (by simpa [PyData.shown] using sz))
  | list h1 h2 h3 h4 =>
    exact repr_of_reads' (.list h1 h2 h3 h4) sh (fun z => ns (hd z)) cm (by omega) (fun _ _ e => e) (fun h' u tk k => ⟨.str _, H, I.kept k, ⟨_, rfl⟩, q⟩) (by omega)
  | tuple h1 h2 h3 h4 =>
    exact repr_of_reads' (.tuple h1 h2 h3 h4) sh (fun z => ns (hd z)) cm (by omega) (fun _ _ e => e) (fun h' u tk k => ⟨.str _, H, I.kept k, ⟨_, rfl⟩, q⟩) (by omega)
  | dict h1 h2 h3 h4 h5 =>
    exact repr_of_reads' (.dict h1 h2 h3 h4 h5) sh (fun z => ns (hd z)) cm (by omega) (fun _ _ e => e) (fun h' u tk k => ⟨.str _, H, I.kept k, ⟨_, rfl⟩, q⟩) (by omega)
/-- sorted(xs), by the data of the items -/
abbrev Item := V × PyData
def rSortD (K : PySem.W.Frag) : List V → Hp → VK → Prop := fun xs H Q => ∃ (a : Addr) (zs : List Item), xs = [.ref a] ∧ SqL K H a (zs.map Prod.fst) ∧ (∀ p, p ∈ zs → Dp K H p.1 p.2) ∧ PySem.W.AllAlike (zs.map Prod.snd) ∧ PySem.W.Sortable (zs.map Prod.snd) ∧
  zs.length ≤ sizeLine ∧ (∀ p, p ∈ zs → p.2.depth ≤ 60) ∧ ∀ p, H p = none → Q (.ref p) (upd H p (.lst ((zs.mergeSort (PySem.W.dataLe false Prod.snd)).map Prod.fst)))
theorem cr_sortedD (hu : X.A.units + 64 < cLine) : CallR X (.builtin "sorted") (rSortD X.K) := by
  intro pins s σ H xs us Q I rv h
  obtain ⟨a, zs, rfl, hl, hz, al, so, sz, dp, q⟩ := h
  obtain ⟨u, rfl, ru⟩ := rv.one
  cases ru
  obtain ⟨its, r, pl, nl⟩ := I.list hl
  have each : ∀ (zs : List Item) (its : List Value), Vals (zs.map Prod.fst) its → (∀ p, p ∈ zs → Dp X.K H p.1 p.2) → PySem.W.EachIs (fun u (p : Item) => RelV p.1 u ∧ ∃ as, Reads s.heap u p.2 as) its zs := by
    intro zs
    induction zs with
    | nil =>
      intro its r _
      cases r
      exact .nil
    | cons p zs ih =>
      intro its r hz
      cases r with
      | cons r1 rt => exact .cons ⟨r1, Dp.reads I _ _ _ (hz p List.mem_cons_self) r1⟩ (ih _ rt fun q hq => hz q (List.mem_cons_of_mem _ hq))
  have e := each zs its r hz
  have back : ∀ {out : List Value} {ys : List Item}, PySem.W.EachIs (fun u (p : Item) => RelV p.1 u ∧ ∃ as, Reads s.heap u p.2 as) out ys → Vals (ys.map Prod.fst) out := by
    intro out ys h
    induction h with
    | nil => exact .nil
    | cons h _ ih => exact .cons h.1 ih
  refine PySem.W.sorted_data pl.isList e (e.mono fun _ _ h => h.2) al so sz (fun b hb => by have := dp b hb; omega) ?_
  intro out ho eo
  obtain ⟨ep, he⟩ := PyProof.Rows.sortedAll_at s.heap its out.toArray
  have rr := back eo
  have ln : ((zs.mergeSort (PySem.W.dataLe false Prod.snd)).map Prod.fst).length ≤ sizeLine := by
    rw [List.length_map, List.length_mergeSort]
    exact sz
  exact ⟨.ref _, upd H (s.heap.objs.size + 1) (.lst ((zs.mergeSort (PySem.W.dataLe false Prod.snd)).map Prod.fst)), I.laid (t' := s.toks) (fun _ _ => PyProof.Rows.sortedAll_old) (Nat.le_succ _) ⟨ln, out, ep, rr, he⟩, rfl, q _ (I.hok.fresh (Nat.le_succ _))⟩
end
end Kx
/-! The dice. -/
namespace K14
open PySem PySem.Spec PyProof.Rows L2 Kx
/-- all but a stands -/
def But (a : Addr) (H H' : Hp) : Prop := ∀ b o, H b = some o → b ≠ a → H' b = some o
theorem But.refl (a : Addr) (H : Hp) : But a H H := fun _ _ h _ => h
theorem But.trans {a : Addr} {H H1 H2 : Hp} (x : But a H H1) (y : But a H1 H2) : But a H H2 := fun b o h n => y b o (x b o h n) n
theorem But.of {a : Addr} {H H' : Hp} (x : Same H H') : But a H H' := fun b o h _ => x b o h
theorem But.upd {a : Addr} {H : Hp} {o : HO} : But a H (upd H a o) := fun b u h n => by rw [upd_ne n]; exact h
theorem same_new {H : Hp} {p : Addr} {o : HO} (h : H p = none) : Same H (upd H p o) := fun b x e => by
  rw [upd_ne (ne_of_none e h)]
  exact e
/-- dice at a, rolled n times at most -/
def Dice (H : Hp) (a : Addr) (n : Nat) : Prop := ∃ i0 i1 i2 : Int, H a = some (.lst [.int i0, .int i1, .int i2]) ∧ 0 ≤ i0 ∧ i0 < 2 ^ 2200 ∧ 0 ≤ i1 ∧ i1 < 2 ^ 61 ∧ 0 ≤ i2 ∧ i2 ≤ n
theorem Dice.up {H H' : Hp} {a : Addr} {n : Nat} (d : Dice H a n) (e : Same H H') : Dice H' a n := by
  obtain ⟨i0, i1, i2, h, r⟩ := d
  exact ⟨i0, i1, i2, e _ _ h, r⟩
theorem Dice.le {H : Hp} {a : Addr} {n m : Nat} (d : Dice H a n) (e : n ≤ m) : Dice H a m := by
  obtain ⟨i0, i1, i2, h, a1, a2, a3, a4, a5, a6⟩ := d
  exact ⟨i0, i1, i2, h, a1, a2, a3, a4, a5, by omega⟩
section
variable {P : Program} {w : World} {K : PySem.W.Frag} {mg : Str → Option Value} {base : Heap}
def spDice (K : PySem.W.Frag) : Sp := fun vs H Q _ => ∃ (a : Addr) (ns : List Int) (k : Nat), vs = [.ref a, .int k] ∧ SqL K H a (ns.map V.int) ∧ k < 1000 ∧ ∀ H' p, Same H H' → H p = none → Dice H' p 0 → Q (.ref p) H'
theorem ok_dice (T : Tx K mg) : FnOk P w K mg base CX0 1 T.a_law_dice T.d_law_dice ["script", "spot"] (spDice K) := by
  have nd := sc__law_dice.nd
  refine T.f_law_dice.ok sc__law_dice (fun vs H Q E h => ?_) (fun cdv A outer s H vs Q E hr h => ?_)
  · obtain ⟨a, ns, k, rfl, _⟩ := h
    rfl
  · obtain ⟨a, ns, k, rfl, hS, hk, q⟩ := h
    refine ⟨_, (C8.pss_cut (ps_set (i := 2) nd rfl (.inl rfl) (pe_ifExp (pt_cmpR op_lt (pv 1) (pe_callB call_len_seq (by rfl) T.b_len (by decide +kernel) (pa_cons (pv 0) pa_nil)) (nomark _)) (pe_ix ix_list (pv 0) (pv 1) (fun _ _ => rfl)) (pe_op op_add (pe_op op_mul pe_int (pv 1)) pe_int)))
      (pss_cons (ps_set (i := 3) nd rfl (.inl rfl) (pe_op op_mod (pe_callTy call_int1 (by rfl) T.b_int (by decide +kernel) (pa_cons (pe_callB call_abs (by rfl) T.b_abs (by decide +kernel) (pa_cons (pv 2) pa_nil)) pa_nil)) (pe_op op_powX (pe_op op_pow pe_int pe_int) pe_int)))
      (pss_cons (ps_set (i := 4) nd rfl (.inl rfl) (pe_op op_mul (pe_op op_mod (pe_callTy call_int1 (by rfl) T.b_int (by decide +kernel) (pa_cons (pv 3) pa_nil)) pe_int) pe_int))
      (pss_cons (ps_set (i := 4) nd rfl (.inl rfl) (pe_op op_add (pe_op op_add (pe_op op_add (pv 4) (pe_op op_mul pe_int (pv 1))) (pe_op op_mul pe_int (pe_callTy call_int1 (by rfl) T.b_int (by decide +kernel) (pa_cons (pe_cmpR op_lt (pv 2) pe_int (nomark _)) pa_nil)))) pe_int))
      (pss_one (ps_ret (pe_lst (pa_cons (pe_callB (call_max2 rfl) (by rfl) T.b_max (by decide +kernel) (pa_cons pe_int (pa_cons (pe_op op_add (pe_op op_sub (pv 3) (pe_op op_pow pe_int pe_int)) pe_int) pa_nil))) (pa_cons (pe_op op_mod (pe_callTy call_int1 (by rfl) T.b_int (by decide +kernel) (pa_cons (pv 4) pa_nil)) pe_int) (pa_cons pe_int pa_nil)))))))))), ?_⟩
    -- cell: one or the other int
    refine ⟨fun σ' H' => H' = H ∧ ∃ c : Int, σ' = [some (.ref a), some (.int k), some (.int c), none, none], ?_, ?_⟩
    · refine ⟨_, rfl, .ref a, rfl, a, ns.map V.int, rfl, .inl hS, k, _, rfl, rfl, _, rfl, ite2 (fun hc => ?_) (fun hc => ?_)⟩
      · have lt : k < ns.length := by
          have z := of_decide_eq_true hc
          rw [List.length_map] at z
          omega
        refine ⟨.ref a, rfl, _, rfl, a, ns.map V.int, (k : Int), .int ns[k], rfl, rfl, hS, atI_nat (by rw [List.getElem?_map, List.getElem?_eq_getElem lt]; rfl), rfl, ns[k], rfl⟩
      · exact ⟨_, rfl, 37, k, rfl, rfl, .inl ⟨by decide, by decide⟩, _, _, rfl, rfl, rfl, _, rfl⟩
    rintro σ' H' ⟨rfl, c, rfl⟩
    -- great
    refine ⟨_, rfl, c, rfl, .inl ⟨_, rfl, 10, 59, rfl, rfl, ⟨by decide, by decide, by decide⟩, _, 11, rfl, rfl, ⟨by decide, by decide +kernel⟩, _, _, rfl, rfl, (show (0 : Int) < ((10 : Int) ^ (59 : Int).toNat) ^ (11 : Int).toNat by decide +kernel), ?_⟩⟩
    dsimp only
    have g0 := Int.emod_nonneg (if c < 0 then -c else c) (show ((10 : Int) ^ (59 : Int).toNat) ^ (11 : Int).toNat ≠ 0 by decide +kernel)
    have g1 := Int.emod_lt_of_pos (if c < 0 then -c else c) (show (0 : Int) < ((10 : Int) ^ (59 : Int).toNat) ^ (11 : Int).toNat by decide +kernel)
    have g2 : ((10 : Int) ^ (59 : Int).toNat) ^ (11 : Int).toNat < 2 ^ 2200 := by decide +kernel
    have g3 := Int.lt_trans g1 g2
    clear g1 g2
    generalize (if c < 0 then -c else c) % ((10 : Int) ^ (59 : Int).toNat) ^ (11 : Int).toNat = g at g0 g3 ⊢
    -- mixed
    refine ⟨_, rfl, .inl ⟨g, rfl, g, 2305843009213693951, rfl, rfl, (show (0 : Int) < 2305843009213693951 by decide), _, 7046029254386353, rfl, rfl, .inr ⟨by decide, by decide⟩, ?_⟩⟩
    refine ⟨_, rfl, _, rfl, 131, k, rfl, rfl, .inl ⟨by decide, by decide⟩, _, _, rfl, rfl, _, rfl, c, 0, rfl, rfl, .inr ⟨_, rfl, 17, _, rfl, rfl, .inl ⟨by decide, by decide⟩, _, _, rfl, rfl, _, 3, rfl, rfl, ?_⟩⟩
    dsimp only
    generalize g % 2305843009213693951 * 7046029254386353 + 131 * (k : Int) + 17 * (if decide (c < 0) = true then 1 else 0) + 3 = m
    -- the list
    refine ⟨_, rfl, 10, 18, rfl, rfl, ⟨by decide, by decide, by decide⟩, g, _, rfl, rfl, _, 1, rfl, rfl, 0, _, rfl, _, rfl, .inl ⟨m, rfl, m, 2305843009213693921, rfl, rfl, (show (0 : Int) < 2305843009213693921 by decide), by show 3 ≤ sizeLine; decide, fun p np => ?_⟩⟩
    refine q _ p (same_new np) np ⟨_, _, _, upd_same, ?_, ?_, Int.emod_nonneg _ (by decide), Int.lt_trans (Int.emod_lt_of_pos _ (by decide)) (by decide), by decide, by decide⟩
    · split <;> omega
    · split
      · have : (0 : Int) ≤ 10 ^ (18 : Int).toNat := by decide
        have z : (1 : Int) ≤ 10 ^ (18 : Int).toNat := by decide
        omega
      · decide
end
end K14
/-! The dice rolled; an item picked; items mixed. -/
namespace K14
open PySem PySem.Spec PyProof.Rows L2 Kx
section
variable {P : Program} {w : World} {K : PySem.W.Frag} {mg : Str → Option Value} {base : Heap}
def cap : Nat := 1000000
def spRoll : Sp := fun vs H Q _ => ∃ (a : Addr) (n : Nat) (m : Int), vs = [.ref a, .int m] ∧ Dice H a n ∧ n < cap ∧ 0 < m ∧ m < 1000000 ∧ ∀ (r : Int) H', But a H H' → Dice H' a (n + 1) → 0 ≤ r → r < m → Q (.int r) H'
theorem ok_roll (T : Tx K mg) : FnOk P w K mg base CX0 1 T.a_law_roll T.d_law_roll ["dice", "top"] spRoll := by
  have nd := sc__law_roll.nd
  refine T.f_law_roll.ok sc__law_roll (fun vs H Q E h => ?_) (fun cdv A outer s H vs Q E hr h => ?_)
  · obtain ⟨a, n, m, rfl, _⟩ := h
    rfl
  · obtain ⟨a, n, m, rfl, ⟨i0, i1, i2, hd, h0, h1, h2, h3, h4, h5⟩, hn, m0, m1, q⟩ := h
    have sl : SqL K H a [.int i0, .int i1, .int i2] := .inl (.inl hd)
    refine ⟨_, (pss_cons (ps_if (pt_cmpR op_gt (pe_ix ix_list (pv 0) pe_int (fun _ _ => rfl)) pe_int (nomark _)) (pss_cons (ps_set (i := 2) nd rfl (.inl rfl) (pe_op op_mod (pe_callTy call_int1 (by rfl) T.b_int (by decide +kernel) (pa_cons (pe_ix ix_list (pv 0) pe_int (fun _ _ => rfl)) pa_nil)) (pv 1)))
      (pss_cons (ps_asg (pe_op op_fdivW (pe_ix ix_list (pv 0) pe_int (fun _ _ => rfl)) (pv 1)) (pg_sub (pv 0) pe_int set_list))
      (pss_one (ps_ret (pv 2))))) pss_nil)
      (pss_cons (ps_asg (pe_op op_add (pe_ix ix_list (pv 0) pe_int (fun _ _ => rfl)) pe_int) (pg_sub (pv 0) pe_int set_list))
      (pss_cons (ps_set (i := 3) nd rfl (.inl rfl) (pe_op op_mod (pe_callTy call_int1 (by rfl) T.b_int (by decide +kernel) (pa_cons (pe_op op_add (pe_ix ix_list (pv 0) pe_int (fun _ _ => rfl)) (pe_op op_mul pe_int (pe_ix ix_list (pv 0) pe_int (fun _ _ => rfl)))) pa_nil)) pe_int))
      (pss_cons (ps_set (i := 4) nd rfl (.inl rfl) (pe_op op_add (pe_op op_mul (pe_op op_mod (pe_callTy call_int1 (by rfl) T.b_int (by decide +kernel) (pa_cons (pe_op op_mul (pv 3) (pv 3)) pa_nil)) pe_int) (pv 3)) (pe_op op_mul pe_int (pe_ix ix_list (pv 0) pe_int (fun _ _ => rfl)))))
      (pss_one (ps_ret (pe_op op_mod (pe_callTy call_int1 (by rfl) T.b_int (by decide +kernel) (pa_cons (pe_op op_fdiv (pe_op op_mod (pe_callTy call_int1 (by rfl) T.b_int (by decide +kernel) (pa_cons (pe_op op_add (pe_op op_mulW (pv 4) (pv 4)) (pe_ix ix_list (pv 0) pe_int (fun _ _ => rfl))) pa_nil)) pe_int) pe_int) pa_nil)) (pv 1)))))))), ?_⟩
    refine ⟨_, rfl, a, _, _, _, rfl, rfl, sl, atI_nat (j := 0) rfl, i0, 0, rfl, rfl, _, rfl, ite2 (fun hc => ?_) (fun hc => ?_)⟩
    · -- the great number
      refine ⟨_, rfl, a, _, _, _, rfl, rfl, sl, atI_nat (j := 0) rfl, .inl ⟨i0, rfl, _, rfl, i0, m, rfl, rfl, m0, ?_⟩⟩
      refine ⟨_, rfl, a, _, _, _, rfl, rfl, sl, atI_nat (j := 0) rfl, _, rfl, i0, m, rfl, rfl, wide_div m0 (b := 30) (by omega) (by decide) (by decide), _, rfl, a, _, _, 0, rfl, rfl, hd, rfl, ?_⟩
      refine ⟨_, rfl, q _ _ But.upd ⟨i0 / m, i1, i2, upd_same, Int.ediv_nonneg h0 (by omega), Int.lt_of_le_of_lt (Int.ediv_le_self _ h0) h1, h2, h3, h4, by omega⟩ (Int.emod_nonneg _ (by omega)) (Int.emod_lt_of_pos _ m0)⟩
    · -- the small one
      refine ⟨_, rfl, a, _, _, _, rfl, rfl, sl, atI_nat (j := 2) rfl, i2, 1, rfl, rfl, _, rfl, a, _, _, 2, rfl, rfl, hd, rfl, ?_⟩
      have hd2 : (upd H a (.lst ([V.int i0, V.int i1, V.int i2].set 2 (V.int (i2 + 1))))) a = some (.lst [V.int i0, V.int i1, V.int (i2 + 1)]) := upd_same
      have sl2 : SqL K (upd H a (.lst ([V.int i0, V.int i1, V.int i2].set 2 (V.int (i2 + 1))))) a [.int i0, .int i1, .int (i2 + 1)] := .inl (.inl hd2)
      refine ⟨_, rfl, a, _, _, _, rfl, rfl, sl2, atI_nat (j := 1) rfl, _, rfl, a, _, _, _, rfl, rfl, sl2, atI_nat (j := 2) rfl, 1220703125, i2 + 1, rfl, rfl, .inl ⟨by decide, by decide⟩, i1, _, rfl, rfl, .inl ⟨_, rfl, _, 36028797018963913, rfl, rfl, (show (0 : Int) < 36028797018963913 by decide), ?_⟩⟩
      dsimp only
      have o0 := Int.emod_nonneg (i1 + 1220703125 * (i2 + 1)) (show (36028797018963913 : Int) ≠ 0 by decide)
      have o1 := Int.emod_lt_of_pos (i1 + 1220703125 * (i2 + 1)) (show (0 : Int) < 36028797018963913 by decide)
      generalize (i1 + 1220703125 * (i2 + 1)) % 36028797018963913 = one at o0 o1 ⊢
      refine ⟨_, rfl, _, rfl, one, one, rfl, rfl, .inl ⟨by omega, by omega⟩, .inl ⟨_, rfl, _, 18014398509481951, rfl, rfl, (show (0 : Int) < 18014398509481951 by decide), _, rfl, _, one, rfl, rfl, .inr ⟨by omega, by omega⟩, _, rfl, a, _, _, _, rfl, rfl, sl2, atI_nat (j := 2) rfl, 271828183, i2 + 1, rfl, rfl, .inl ⟨by decide, by decide⟩, _, _, rfl, rfl, ?_⟩⟩
      dsimp only
      have x0 := Int.emod_nonneg (one * one) (show (18014398509481951 : Int) ≠ 0 by decide)
      have x1 := Int.emod_lt_of_pos (one * one) (show (0 : Int) < 18014398509481951 by decide)
      generalize one * one % 18014398509481951 = x at x0 x1 ⊢
      have y0 : 0 ≤ x * one := Int.mul_nonneg x0 o0
      have y1 : x * one ≤ 18014398509481951 * 36028797018963913 := Int.mul_le_mul (by omega) (by omega) o0 (by decide)
      generalize x * one = y at y0 y1 ⊢
      have hn' : (i2 + 1 : Int) ≤ 1000001 := by
        unfold cap at hn
        omega
      have t1 : (y + 271828183 * (i2 + 1)).natAbs < 2 ^ 120 := by omega
      generalize y + 271828183 * (i2 + 1) = two at t1 ⊢
      refine ⟨_, rfl, _, rfl, two, two, rfl, rfl, wide_mul t1 t1 (by decide) (by decide) (by decide), _, rfl, a, _, _, _, rfl, rfl, sl2, atI_nat (j := 1) rfl, _, i1, rfl, rfl, .inl ⟨_, rfl, _, 1125899906842597, rfl, rfl, (show (0 : Int) < 1125899906842597 by decide), _, 4096, rfl, rfl, ⟨by decide, by decide⟩, .inl ⟨_, rfl, _, rfl, _, m, rfl, rfl, m0, ?_⟩⟩⟩
      exact q _ _ But.upd ⟨i0, i1, i2 + 1, hd2, h0, h1, h2, h3, by omega, by omega⟩ (Int.emod_nonneg _ (by omega)) (Int.emod_lt_of_pos _ m0)
/-- an item of a list at b -/
def spPick (K : PySem.W.Frag) : Sp := fun vs H Q _ => ∃ (a b : Addr) (n : Nat) (xs : List V), vs = [.ref a, .ref b] ∧ Dice H a n ∧ n < cap ∧ SqL K H b xs ∧ b ≠ a ∧ 0 < xs.length ∧ xs.length < 1000000 ∧ ∀ (i : Nat) (v : V) H', But a H H' → Dice H' a (n + 1) → xs[i]? = some v → Q v H'
theorem But.sq {a b : Addr} {H H' : Hp} {xs : List V} (x : But a H H') (h : SqL K H b xs) (n : b ≠ a) : SqL K H' b xs := by
  rcases h with (h | ⟨o, h⟩) | h
  · exact .inl (.inl (x _ _ h n))
  · exact .inl (.inr ⟨o, x _ _ h n⟩)
  · exact .inr h
theorem ok_pick (T : Tx K mg) : FnOk P w K mg base CX0 2 T.a_law_pick T.d_law_pick ["dice", "items"] (spPick K) := by
  have nd := sc__law_pick.nd
  have G := ok_roll (P := P) (w := w) (base := base) T
  refine T.f_law_pick.ok sc__law_pick (fun vs H Q E h => ?_) (fun cdv A outer s H vs Q E hr h => ?_)
  · obtain ⟨a, b, n, xs, rfl, _⟩ := h
    rfl
  · obtain ⟨a, b, n, xs, rfl, hd, hn, hb, ne, l0, l1, q⟩ := h
    refine ⟨_, (pss_one (ps_ret (pe_ix ix_list (pv 1) (pe_call G (hr.mono (by decide)) (by rfl) T.g_law_roll T.f_law_roll.kp T.n_law_roll .nil pass0 (pa_cons (pv 0) (pa_cons (pe_callB call_len_seq (by rfl) T.b_len (by decide +kernel) (pa_cons (pv 1) pa_nil)) pa_nil))) (fun _ _ => rfl)))), ?_⟩
    refine ⟨_, rfl, _, rfl, _, rfl, b, xs, rfl, .inl hb, a, n, _, rfl, hd, hn, by omega, by omega, fun r H' bt hd' r0 r1 => ?_⟩
    have lt : r.toNat < xs.length := by omega
    have e : xs[r.toNat]? = some xs[r.toNat] := List.getElem?_eq_getElem lt
    refine ⟨b, xs, r, _, rfl, rfl, bt.sq hb ne, ?_, q _ _ _ bt hd' e⟩
    exact at_of (by omega) e
end
end K14
/-! Compared with an empty list, an empty tuple. -/
namespace Kx
open PySem PySem.Spec PyProof.Rows L2
section
variable {X : Cx}
def rNilL (K : PySem.W.Frag) (g : Bool → Bool) : R2 := fun x y H Q => ∃ a b xs, x = .ref a ∧ y = .ref b ∧ SqL K H a xs ∧ SqL K H b [] ∧ Q (.bl (g xs.isEmpty)) H
def rNilT (K : PySem.W.Frag) (g : Bool → Bool) : R2 := fun x y H Q => ∃ a b xs, x = .ref a ∧ y = .ref b ∧ SqT K H a xs ∧ SqT K H b [] ∧ Q (.bl (g xs.isEmpty)) H
theorem op_neNil (hu : X.A.units + 64 < cLine) : OpR X (compareOp .NotEq) (rNilL X.K fun b => !b) := by
  intro pins s σ H x y v u Q I rx ry h
  obtain ⟨a, b, xs, rfl, rfl, ha, hb, q⟩ := h
  cases xs with
  | nil => exact op_neD hu pins s σ H _ _ v u Q I rx ry ⟨.list [], .list [], .lst ha .nil, .lst hb .nil, rfl, rfl, by simpa [PyData.eqv, PyData.eqvAll] using q⟩
  | cons z zs =>
    cases rx
    cases ry
    obtain ⟨i1, r1, p1, _⟩ := I.list ha
    obtain ⟨i2, r2, p2, _⟩ := I.list hb
    cases r2
    have ne : (i1.toArray.size != (#[] : Array Value).size) = true := by
      cases r1
      simp
    exact SeqAt.RcNeAt.lists_lengths p1.isList p2.isList ne (by omega) _ _ _ _ ⟨.bl _, H, I, rfl, q⟩
theorem op_eqNil (hu : X.A.units + 64 < cLine) : OpR X (compareOp .Eq) (rNilL X.K fun b => b) := by
  intro pins s σ H x y v u Q I rx ry h
  obtain ⟨a, b, xs, rfl, rfl, ha, hb, q⟩ := h
  cases xs with
  | nil => exact op_eqD hu pins s σ H _ _ v u Q I rx ry ⟨.list [], .list [], .lst ha .nil, .lst hb .nil, rfl, rfl, by simpa [PyData.eqv, PyData.eqvAll] using q⟩
  | cons z zs =>
    cases rx
    cases ry
    obtain ⟨i1, r1, p1, _⟩ := I.list ha
    obtain ⟨i2, r2, p2, _⟩ := I.list hb
    cases r2
    have ne : (i1.toArray.size != (#[] : Array Value).size) = true := by
      cases r1
      simp
    exact SeqAt.RcAt.lists_lengths p1.isList p2.isList ne (by omega) _ _ _ _ ⟨.bl _, H, I, rfl, q⟩
end
end Kx
/-! Items mixed. -/
namespace K14
open PySem PySem.Spec PyProof.Rows L2 Kx
theorem erase_perm {α : Type} : ∀ {l : List α} {k : Nat} {y : α}, l[k]? = some y → (y :: l.eraseIdx k).Perm l
  | [], _, _, h => by simp at h
  | x :: l, 0, y, h => by
    simp at h
    subst h
    exact List.Perm.refl _
  | x :: l, k + 1, y, h => by
    have ih := erase_perm (l := l) (k := k) (y := y) (by simpa using h)
    rw [List.eraseIdx_cons_succ]
    exact (List.Perm.swap _ _ _).trans (ih.cons x)
theorem Dice.same {H H' : Hp} {a : Addr} {n : Nat} (d : Dice H a n) (e : H' a = H a) : Dice H' a n := by
  obtain ⟨i0, i1, i2, h, r⟩ := d
  exact ⟨i0, i1, i2, by rw [e, h], r⟩
end K14
/-! Names and forms. -/
namespace K14
open PySem PySem.Spec PyProof.Rows L2 Kx
def letter (c : Nat) : Bool := decide (97 ≤ c) && decide (c ≤ 122)
def isNm (x : Str) : Bool := decide (1 ≤ x.length) && decide (x.length ≤ 8) && x.cps.all letter
theorem ascii_table : ((List.range 128).all fun c => (letter c == (Unicode.isAlpha c && !(Unicode.isUpper c || Unicode.isTitle c))) && (!letter c || Unicode.isLower c)) = true := by decide +kernel
theorem ascii_at {c : Nat} (h : c < 128) : letter c = (Unicode.isAlpha c && !(Unicode.isUpper c || Unicode.isTitle c)) ∧ (letter c = true → Unicode.isLower c = true) := by
  have z := List.all_eq_true.mp ascii_table c (List.mem_range.mpr h)
  rw [Bool.and_eq_true, beq_iff_eq] at z
  refine ⟨z.1, fun l => ?_⟩
  have y := z.2
  rw [l] at y
  simpa using y
theorem letter_ascii {c : Nat} (h : letter c = true) : c < 128 := by
  unfold letter at h
  simp at h
  omega
theorem name_txt (x : Str) : (Txt.isascii x && (Txt.isalpha x && Txt.islower x)) = (decide (1 ≤ x.length) && x.cps.all letter) := by
  rw [Bool.eq_iff_iff]
  simp only [Bool.and_eq_true, Txt.isascii, Txt.isalpha, Txt.islower, Array.all_eq_true, Array.any_eq_true, Bool.not_eq_true', decide_eq_true_eq]
  constructor
  · rintro ⟨h1, ⟨h2, h3⟩, h4, h5⟩
    refine ⟨h2, fun i hi => ?_⟩
    rw [(ascii_at (by simpa using h1 i hi)).1, h3 i hi, Bool.true_and, Bool.not_eq_true']
    exact (by
      have z : ¬ (x.cps.any fun c => Unicode.isUpper c || Unicode.isTitle c) = true := by rw [h5]; exact Bool.false_ne_true
      rw [Array.any_eq_true] at z
      cases e : (Unicode.isUpper x.cps[i] || Unicode.isTitle x.cps[i]) with
      | false => rfl
      | true => exact absurd ⟨i, hi, e⟩ z)
  · rintro ⟨h1, h2⟩
    have a : ∀ (i : Nat) (hi : i < x.cps.size), x.cps[i] < 128 := fun i hi => letter_ascii (h2 i hi)
    have b : ∀ (i : Nat) (hi : i < x.cps.size), Unicode.isAlpha x.cps[i] = true ∧ (Unicode.isUpper x.cps[i] || Unicode.isTitle x.cps[i]) = false := fun i hi => by
      have z := h2 i hi
      rw [(ascii_at (a i hi)).1] at z
      simpa using z
    refine ⟨fun i hi => by simpa using a i hi, ⟨h1, fun i hi => (b i hi).1⟩, ⟨0, h1, (ascii_at (a 0 h1)).2 (h2 0 h1)⟩, ?_⟩
    cases e : (x.cps.any fun c => Unicode.isUpper c || Unicode.isTitle c) with
    | false => rfl
    | true =>
      obtain ⟨i, hi, z⟩ := Array.any_eq_true.mp e
      rw [(b i hi).2] at z
      cases z
def nameD : PyData → Bool
  | .str x => isNm x
  | _ => false
/-- a tuple of a name and at most three others -/
def formD : PyData → Bool
  | .tuple (d :: ds) => decide (ds.length ≤ 3) && nameD d
  | _ => false
theorem kit_str : ∀ d : PyData, kitB (tyD d) "str" = some (match d with | .str _ => true | _ => false)
  | .none => (by decide +kernel : kitB "NoneType" "str" = some false)
  | .bool _ => (by decide +kernel : kitB "bool" "str" = some false)
  | .int _ => (by decide +kernel : kitB "int" "str" = some false)
  | .str _ => (by decide +kernel : kitB "str" "str" = some true)
  | .list _ => (by decide +kernel : kitB "list" "str" = some false)
  | .tuple _ => (by decide +kernel : kitB "tuple" "str" = some false)
  | .dict _ => (by decide +kernel : kitB "dict" "str" = some false)
theorem kit_tuple : ∀ d : PyData, kitB (tyD d) "tuple" = some (match d with | .tuple _ => true | _ => false)
  | .none => (by decide +kernel : kitB "NoneType" "tuple" = some false)
  | .bool _ => (by decide +kernel : kitB "bool" "tuple" = some false)
  | .int _ => (by decide +kernel : kitB "int" "tuple" = some false)
  | .str _ => (by decide +kernel : kitB "str" "tuple" = some false)
  | .list _ => (by decide +kernel : kitB "list" "tuple" = some false)
  | .tuple _ => (by decide +kernel : kitB "tuple" "tuple" = some true)
  | .dict _ => (by decide +kernel : kitB "dict" "tuple" = some false)
section
variable {P : Program} {w : World} {K : PySem.W.Frag} {mg : Str → Option Value} {base : Heap}
def spNm (K : PySem.W.Frag) : Sp := fun vs H Q _ => ∃ (x : V) (d : PyData), vs = [x] ∧ Dx K H x d ∧ (∀ y, d = .str y → y.length ≤ sizeLine) ∧ Q (.bl (nameD d)) H
theorem ok_name (T : Tx K mg) : FnOk P w K mg base CX0 1 T.ais_name T.dis_name ["value"] (spNm K) := by
  have nd := sc_is_name.nd
  obtain ⟨tk, hL⟩ := T.c_LONGEST_NAME
  refine T.fis_name.ok sc_is_name (fun vs H Q E h => ?_) (fun cdv A outer s H vs Q E hr h => ?_)
  · obtain ⟨x, d, rfl, _⟩ := h
    rfl
  · obtain ⟨x, d, rfl, hx, hz, q⟩ := h
    refine ⟨_, (pss_cons (ps_if (PW.pt (pw_or (pt_not (pt_val (pe_callB call_isi (by rfl) T.b_isinstance (by decide +kernel) (pa_cons (pv 0) (pa_cons (pe_bltn (v := .ty "str") (by rfl) T.b_str (by decide +kernel) rfl) pa_nil))))) (pw_or1 (pt_cmpR op_gt (pe_callB call_len_str (by rfl) T.b_len (by decide +kernel) (pa_cons (pv 0) pa_nil)) (pe_glob (v := .int 8) (by rfl) hL ⟨_, rfl⟩) (nomark _))))) (pss_one (ps_ret pe_bl)) pss_nil)
      (pss_one (ps_ret (pe_and (pe_bm0 PySem.F.plainAttrs_str PySem.F.slot_str_isascii PySem.F.type_str_isascii mt_isascii (pv 0)) (pe_and (pe_bm0 PySem.F.plainAttrs_str PySem.F.slot_str_isalpha PySem.F.type_str_isalpha mt_isalpha (pv 0)) (pe_one (pe_bm0 PySem.F.plainAttrs_str PySem.F.slot_str_islower PySem.F.type_str_islower mt_islower (pv 0)))))))), ?_⟩
    refine ⟨x, rfl, x, .ty "str", _, _, _, rfl, .ty _, hx.ty, kit_ty (kit_str d), _, rfl, ?_⟩
    cases hx with
    | str z =>
      refine iteF ⟨_, rfl, z, rfl, hz z rfl, _, _, rfl, rfl, _, rfl, ite2 (fun h8 => ?_) (fun h8 => ?_)⟩
      · -- too long
        have h9 := of_decide_eq_true h8
        have e : nameD (.str z) = false := by
          simp [nameD, isNm]
          omega
        rw [e] at q
        exact q
      · have h9 : z.length ≤ 8 := by
          simp at h8
          omega
        have e : nameD (.str z) = (Txt.isascii z && (Txt.isalpha z && Txt.islower z)) := by
          rw [name_txt]
          simp [nameD, isNm, h9]
        rw [e] at q
        refine ⟨_, rfl, rfl, z, rfl, rfl, trivial, _, rfl, ?_⟩
        cases e1 : Txt.isascii z with
        | false =>
          rw [e1] at q
          exact iteF q
        | true =>
          rw [e1, Bool.true_and] at q
          refine iteT ⟨_, rfl, rfl, z, rfl, rfl, trivial, _, rfl, ?_⟩
          cases e2 : Txt.isalpha z with
          | false =>
            rw [e2] at q
            exact iteF q
          | true =>
            rw [e2, Bool.true_and] at q
            exact iteT ⟨_, rfl, rfl, z, rfl, rfl, trivial, q⟩
    | non => exact iteT (iteT q)
    | bl b => exact iteT (iteT q)
    | int i => exact iteT (iteT q)
    | lst _ _ => exact iteT (iteT q)
    | tup _ _ => exact iteT (iteT q)
    | dic _ _ => exact iteT (iteT q)
/-- a value's form: a tuple of a name and at most three others -/
def spForm (K : PySem.W.Frag) : Sp := fun vs H Q _ => ∃ (x : V) (d : PyData), vs = [x] ∧ Dx K H x d ∧ (∀ ds, d = .tuple ds → ∀ y, .str y ∈ ds → y.length ≤ sizeLine) ∧ Q (.bl (formD d)) H
theorem ok_form (T : Tx K mg) : FnOk P w K mg base CX0 2 T.ahas_form T.dhas_form ["value"] (spForm K) := by
  have nd := sc_has_form.nd
  obtain ⟨tk, hM⟩ := T.c_MAX_PLACES
  have G := ok_name (P := P) (w := w) (base := base) T
  refine T.fhas_form.ok sc_has_form (fun vs H Q E h => ?_) (fun cdv A outer s H vs Q E hr h => ?_)
  · obtain ⟨x, d, rfl, _⟩ := h
    rfl
  · obtain ⟨x, d, rfl, hx, hz, q⟩ := h
    refine ⟨_, (pss_one (ps_ret (pe_and (pe_callB call_isi (by rfl) T.b_isinstance (by decide +kernel) (pa_cons (pv 0) (pa_cons (pe_bltn (v := .ty "tuple") (by rfl) T.b_tuple (by decide +kernel) rfl) pa_nil))) (pe_and (pe_chain op_le op_le pe_int (pe_callB call_len_seq (by rfl) T.b_len (by decide +kernel) (pa_cons (pv 0) pa_nil)) (pe_op op_add (pe_glob (v := .int 3) (by rfl) hM ⟨_, rfl⟩) pe_int)) (pe_one (pe_call G (hr.mono (by decide)) (by rfl) T.gis_name T.fis_name.kp T.nis_name .nil pass0 (pa_cons (pe_ix ix_tup (pv 0) pe_int (fun _ _ => rfl)) pa_nil))))))), ?_⟩
    refine ⟨x, rfl, x, .ty "tuple", _, _, _, rfl, .ty _, hx.ty, kit_ty (kit_tuple d), _, rfl, ?_⟩
    cases hx with
    | tup ha hs =>
      rename_i a xs ds
      have len := hs.length
      refine iteT ⟨_, rfl, a, xs, rfl, .inr (SqT.of ha), 1, _, rfl, rfl, _, rfl, ite2 (fun h1 => ?_) (fun h1 => ?_)⟩
      · have l1 : 0 < xs.length := by
          have := of_decide_eq_true h1
          omega
        refine ⟨3, 1, rfl, rfl, _, _, rfl, rfl, _, rfl, ite2 (fun h4 => ?_) (fun h4 => ?_)⟩
        · have l4 : xs.length ≤ 4 := by
            have := of_decide_eq_true h4
            omega
          cases hs with
          | nil => simp at l1
          | cons h0 ht =>
            rename_i v vs d ds
            refine ⟨_, rfl, a, _, 0, v, rfl, rfl, SqT.of ha, atI_nat (j := 0) rfl, v, d, rfl, h0, fun y e => hz _ rfl y (by rw [e]; exact List.mem_cons_self), ?_⟩
            have e : formD (.tuple (d :: ds)) = nameD d := by
              have := ht.length
              simp [formD]
              rw [List.length_cons] at l4
              omega
            rw [e] at q
            exact q
        · have e : formD (.tuple ds) = false := by
            cases ds with
            | nil => rfl
            | cons d ds =>
              rw [List.length_cons] at len
              simp [formD]
              intro z
              simp at h4
              omega
          rw [e] at q
          exact q
      · have e : formD (.tuple ds) = false := by
          cases ds with
          | nil => rfl
          | cons d ds =>
            rw [List.length_cons] at len
            simp at h1
            omega
        rw [e] at q
        exact ⟨_, rfl, iteF q⟩
    | non => exact iteF q
    | bl b => exact iteF q
    | int i => exact iteF q
    | lst _ _ => exact iteF q
    | str _ => exact iteF q
    | dic _ _ => exact iteF q
end
end K14
/-! What is a term, over data. -/
namespace K14
open PySem PySem.Spec PyProof.Rows L2 Kx
mutual
/-- how many parts, all counted -/
def szD : PyData → Nat
  | .tuple ds => szAll ds + 1
  | _ => 1
def szAll : List PyData → Nat
  | [] => 0
  | d :: ds => szD d + szAll ds
end
mutual
/-- of the form, all through -/
def formedD : PyData → Bool
  | .tuple (d :: ds) => decide (ds.length ≤ 3) && nameD d && formedAll ds
  | _ => false
def formedAll : List PyData → Bool
  | [] => true
  | d :: ds => formedD d && formedAll ds
end
abbrev NK := Str × Nat
def headD : PyData → Str
  | .str x => x
  | _ => Str.empty
mutual
/-- the names in a formed datum, with their places -/
def rowsD : PyData → List NK
  | .tuple (d :: ds) => (headD d, ds.length) :: rowsAll ds
  | _ => []
def rowsAll : List PyData → List NK
  | [] => []
  | d :: ds => rowsD d ++ rowsAll ds
end
mutual
/-- texts are short -/
def shortD : PyData → Bool
  | .str x => decide (x.length ≤ 1000)
  | .tuple ds => shortAll ds
  | _ => true
def shortAll : List PyData → Bool
  | [] => true
  | d :: ds => shortD d && shortAll ds
end
def Func (l : List NK) : Prop := ∀ p, p ∈ l → ∀ q, q ∈ l → p.1 = q.1 → p.2 = q.2
instance (l : List NK) : Decidable (Func l) := decidable_of_iff (∀ p ∈ l, ∀ q ∈ l, p.1 = q.1 → p.2 = q.2) ⟨fun h => h, fun h => h⟩
def termD (d : PyData) : Bool := formedD d && decide (Func (rowsD d))
theorem szD_pos (d : PyData) : 0 < szD d := by
  cases d <;> simp [szD]
theorem szAll_append : ∀ (l m : List PyData), szAll (l ++ m) = szAll l + szAll m
  | [], m => by simp [szAll]
  | d :: l, m => by simp [szAll, szAll_append l m, Nat.add_assoc]
theorem formedAll_append : ∀ (l m : List PyData), formedAll (l ++ m) = (formedAll l && formedAll m)
  | [], m => by simp [formedAll]
  | d :: l, m => by simp [formedAll, formedAll_append l m, Bool.and_assoc]
theorem rowsAll_append : ∀ (l m : List PyData), rowsAll (l ++ m) = rowsAll l ++ rowsAll m
  | [], m => by simp [rowsAll]
  | d :: l, m => by simp [rowsAll, rowsAll_append l m]
theorem shortAll_append : ∀ (l m : List PyData), shortAll (l ++ m) = (shortAll l && shortAll m)
  | [], m => by simp [shortAll]
  | d :: l, m => by simp [shortAll, shortAll_append l m, Bool.and_assoc]
theorem length_le_sz : ∀ l : List PyData, l.length ≤ szAll l
  | [] => Nat.le_refl _
  | d :: l => by
    have := length_le_sz l
    have := szD_pos d
    simp only [List.length_cons, szAll]
    omega
theorem Func.congr {l m : List NK} (h : ∀ p, p ∈ l ↔ p ∈ m) : Func l ↔ Func m :=
  ⟨fun f p hp q hq => f p ((h p).mpr hp) q ((h q).mpr hq), fun f p hp q hq => f p ((h p).mp hp) q ((h q).mp hq)⟩
/-- what is still to be seen: the names so far, the data that wait -/
def Todo (m : List NK) (st : List PyData) : Prop := formedAll st = true ∧ Func (m ++ rowsAll st)
theorem todo_one (d : PyData) : Todo [] [d] ↔ termD d = true := by
  simp [Todo, termD, formedAll, rowsAll]
theorem todo_bad {m : List NK} {st : List PyData} {e : PyData} (h : formD e = false) : ¬ Todo m (st ++ [e]) := by
  rintro ⟨h1, _⟩
  rw [formedAll_append] at h1
  simp [formedAll] at h1
  cases e with
  | tuple ds =>
    cases ds with
    | nil => simp [formedD] at h1
    | cons d ds =>
      simp [formD] at h
      simp [formedD] at h1
      obtain ⟨_, ⟨a, b⟩, c⟩ := h1
      have := h a
      rw [b] at this
      cases this
  | _ => simp [formedD] at h1
theorem todo_clash {m : List NK} {st ds : List PyData} {x : Str} {k : Nat} (h : (x, k) ∈ m) (hk : k ≠ ds.length) : ¬ Todo m (st ++ [.tuple (.str x :: ds)]) := by
  rintro ⟨_, h2⟩
  refine hk (h2 (x, k) (List.mem_append_left _ h) (x, ds.length) (List.mem_append_right _ ?_) rfl)
  rw [rowsAll_append]
  simp [rowsAll, rowsD, headD]
theorem todo_step {m m' : List NK} {st ds : List PyData} {x : Str} (hf : formD (.tuple (.str x :: ds)) = true) (hm : ∀ p, p ∈ m' ↔ p ∈ m ∨ p = (x, ds.length)) :
    Todo m (st ++ [.tuple (.str x :: ds)]) ↔ Todo m' (st ++ ds) := by
  unfold Todo
  rw [formedAll_append, formedAll_append, rowsAll_append, rowsAll_append]
  have e1 : formedAll [.tuple (.str x :: ds)] = formedAll ds := by
    simp [formD] at hf
    simp [formedAll, formedD, hf.1, hf.2]
  rw [e1]
  refine and_congr Iff.rfl (Func.congr fun p => ?_)
  simp only [List.mem_append, rowsAll, rowsD, headD, hm, List.append_nil, List.mem_cons]
  constructor
  · rintro (h | h | h | h)
    · exact .inl (.inl h)
    · exact .inr (.inl h)
    · exact .inl (.inr h)
    · exact .inr (.inr h)
  · rintro ((h | h) | h | h)
    · exact .inl h
    · exact .inr (.inr (.inl h))
    · exact .inr (.inl h)
    · exact .inr (.inr (.inr h))
theorem todo_done {m : List NK} (h : Func m) : Todo m [] := ⟨rfl, by simpa [rowsAll] using h⟩
end K14
/-! joint_places, is_term, is_cell, check_term. -/
namespace K14
open PySem PySem.Spec PyProof.Rows L2 Kx
theorem snocDx {K : PySem.W.Frag} {H : Hp} : ∀ {vs : List V} {st : List PyData} {e : PyData}, DxAll K H vs (st ++ [e]) → ∃ us v, vs = us ++ [v] ∧ DxAll K H us st ∧ Dx K H v e
  | _, [], e, h => by
    cases h with
    | cons a t =>
      cases t
      exact ⟨[], _, rfl, .nil, a⟩
  | _, d :: st, e, h => by
    cases h with
    | cons a t =>
      obtain ⟨us, v, rfl, q, r⟩ := snocDx t
      exact ⟨_ :: us, v, rfl, .cons a q, r⟩
theorem snoc_or {α : Type} (l : List α) : l = [] ∨ ∃ st e, l = st ++ [e] := by
  rcases List.eq_nil_or_concat l with h | ⟨st, e, h⟩
  · exact .inl h
  · exact .inr ⟨st, e, by rw [h, List.concat_eq_append]⟩
/-- a dict of names and places -/
def dictOf (m : List NK) : List (Key × V) := m.map fun p => (Sum.inr p.1, V.int p.2)
theorem val_some {x : Str} {v : V} : ∀ {m : List NK}, valV (dictOf m) (Sum.inr x) = some v → ∃ k, (x, k) ∈ m ∧ v = .int k
  | [], h => by cases h
  | p :: m, h => by
    by_cases e : p.1 = x
    · rw [show dictOf (p :: m) = (Sum.inr p.1, V.int p.2) :: dictOf m from rfl, valV_pos (by rw [e])] at h
      exact ⟨p.2, by rw [← e]; exact List.mem_cons_self, (Option.some.inj h).symm⟩
    · rw [show dictOf (p :: m) = (Sum.inr p.1, V.int p.2) :: dictOf m from rfl, valV_neg (fun z => e (Sum.inr.inj z))] at h
      obtain ⟨k, a, b⟩ := val_some h
      exact ⟨k, List.mem_cons_of_mem _ a, b⟩
theorem val_none {x : Str} : ∀ {m : List NK}, valV (dictOf m) (Sum.inr x) = none → ∀ k, (x, k) ∉ m
  | [], _, k => fun z => (nomatch z)
  | p :: m, h, k => by
    by_cases e : p.1 = x
    · rw [show dictOf (p :: m) = (Sum.inr p.1, V.int p.2) :: dictOf m from rfl, valV_pos (by rw [e])] at h
      cases h
    · rw [show dictOf (p :: m) = (Sum.inr p.1, V.int p.2) :: dictOf m from rfl, valV_neg (fun z => e (Sum.inr.inj z))] at h
      intro z
      rcases List.mem_cons.mp z with z | z
      · exact e (by rw [← z])
      · exact val_none h k z
theorem short_mem : ∀ {ds : List PyData} {y : Str}, shortAll ds = true → PyData.str y ∈ ds → y.length ≤ 1000
  | [], _, _, h => (nomatch h)
  | d :: ds, y, hs, h => by
    rw [shortAll, Bool.and_eq_true] at hs
    rcases List.mem_cons.mp h with e | h
    · rw [← e] at hs
      simpa [shortD] using hs.1
    · exact short_mem hs.2 h
theorem cut_one {xs : List V} (h : xs ≠ []) : cutV xs (some 1) none = xs.drop 1 := by
  unfold cutV
  rw [show HT.sIx xs.length 0 (some 1) = min 1 xs.length from HT.sIx_nat xs.length 0 1, HT.sIx_none]
  cases xs with
  | nil => exact absurd rfl h
  | cons x r =>
    rw [show min 1 (x :: r).length = 1 by rw [List.length_cons]; omega]
    simp
theorem iteNT {c A B : Prop} [Decidable c] (hc : ¬ c) (h : A) : if (!decide c) = true then A else B := by
  rw [decide_eq_false hc]
  exact iteT h
section
variable {P : Program} {w : World} {K : PySem.W.Frag} {mg : Str → Option Value} {base : Heap}
def jointD (ds : List PyData) : Bool := formedAll ds && decide (Func (rowsAll ds))
theorem joint_todo (ds : List PyData) : Todo [] ds ↔ jointD ds = true := by
  unfold Todo jointD
  rw [List.nil_append, Bool.and_eq_true, decide_eq_true_eq]
theorem joint_one (d : PyData) : jointD [d] = termD d := by
  unfold jointD termD
  simp [formedAll, rowsAll]
def spJointL (K : PySem.W.Frag) : Sp := fun vs H Q _ => ∃ (a : Addr) (xs : List V) (ds : List PyData), vs = [.ref a] ∧ SqL K H a xs ∧ DxAll K H xs ds ∧ shortAll ds = true ∧ szAll ds ≤ 100000 ∧
  ∀ v H', Same H H' → (jointD ds = false → v = .non) → (jointD ds = true → ∃ p ms, v = .ref p ∧ H p = none ∧ H' p = some (.dK (dictOf ms)) ∧ (ms.map Prod.fst).Nodup ∧ ms.length ≤ szAll ds ∧ ∀ r, r ∈ ms ↔ r ∈ rowsAll ds) → Q v H'
def spJoint (K : PySem.W.Frag) : Sp := fun vs H Q _ => ∃ (a : Addr) (x : V) (d : PyData), vs = [.ref a] ∧ SqL K H a [x] ∧ Dx K H x d ∧ shortD d = true ∧ szD d ≤ 100000 ∧
  ∀ v H', Same H H' → (termD d = false → v = .non) → (termD d = true → ∃ p ms, v = .ref p ∧ H p = none ∧ H' p = some (.dK (dictOf ms)) ∧ (ms.map Prod.fst).Nodup ∧ ms.length ≤ szD d ∧ ∀ r, r ∈ ms ↔ r ∈ rowsD d) → Q v H'
theorem ok_jointL (T : Tx K mg) : FnOk P w K mg base CX0 3 T.ajoint_places T.djoint_places ["values"] (spJointL K) := by
  have nd := sc_joint_places.nd
  have G := ok_form (P := P) (w := w) (base := base) T
  refine T.fjoint_places.ok sc_joint_places (fun vs H Q E h => ?_) (fun cdv A outer s H vs Q E hr h => ?_)
  · obtain ⟨a, xs0, d, rfl, _⟩ := h
    rfl
  · obtain ⟨a, xs0, d, rfl, ha, hx, hs, hz, q⟩ := h
    have hu := hu_of hr
    refine ⟨_, (pss_cons (ps_set (i := 1) nd rfl (.inl rfl) pe_dnewK)
      (pss_cons (ps_set (i := 2) nd rfl (.inl rfl) (pe_callTy call_list_of (by rfl) T.b_list (by decide +kernel) (pa_cons (pv 0) pa_nil)))
      (pss_cons (ps_while PassesOwn.never (pt_truth (pv 2) (by intro _; rfl)) (pss_cons (ps_set (i := 3) nd rfl (.inl rfl) (pe_bm0 PySem.F.plainAttrs_list PySem.F.slot_list_pop PySem.F.type_list_pop mt_pop (pv 2)))
      (pss_cons (ps_if (pt_not (pt_val (pe_call G (hr.mono (by decide)) (by rfl) T.ghas_form T.fhas_form.kp T.nhas_form .nil pass0 (pa_cons (pv 3) pa_nil)))) (pss_one (ps_ret pe_non)) pss_nil)
      (pss_cons (ps_set (i := 4) nd rfl (.inl rfl) (pe_op op_sub (pe_callB call_len_seq (by rfl) T.b_len (by decide +kernel) (pa_cons (pv 3) pa_nil)) pe_int))
      (C8.pss_cut (ps_if (pt_cmpR op_ne (pe_dsetd (pv 1) (pe_ix ix_tup (pv 3) pe_int (fun _ _ => rfl)) (pv 4) ⟨by rfl, by rfl, by rfl, by rfl⟩) (pv 4) (nomark _)) (pss_one (ps_ret pe_non)) pss_nil)
      (pss_one (ps_expr (pe_bm PySem.F.plainAttrs_list PySem.F.slot_list_extend PySem.F.type_list_extend mt_extT (pv 2) (pa_cons (pe_slice sl_tupA (pv 3) (po_some pe_int) po_none) pa_nil)))))))))
      (pss_one (ps_ret (pv 1)))))), ?_⟩
    -- places = {}; waiting = list(values)
    intro pl npl
    have s1 : Same H (upd H pl (.dK [])) := same_new npl
    refine ⟨_, rfl, a, xs0, rfl, .inl (s1.seq ha), fun wl nwl => ?_⟩
    have nwp : wl ≠ pl := fun e => by
      subst e
      rw [upd_same] at nwl
      cases nwl
    have nwl' : H wl = none := by rw [← nwl, upd_ne nwp]
    have s2 : Same H (upd (upd H pl (.dK [])) wl (.lst xs0)) := s1.trans (same_new nwl)
    refine ⟨fun m σ H2 => (∃ y3 y4, σ = [some (.ref a), some (.ref pl), some (.ref wl), y3, y4]) ∧ ∃ (vs : List V) (st : List PyData) (ms : List NK), m = szAll st ∧ H2 wl = some (.lst vs) ∧ H2 pl = some (.dK (dictOf ms)) ∧ Same H H2 ∧ DxAll K H vs st ∧
        shortAll st = true ∧ ms.length + szAll st ≤ szAll d ∧ Func ms ∧ (jointD d = true ↔ Todo ms st) ∧ (ms.map Prod.fst).Nodup ∧ (∀ r, (r ∈ ms ∨ r ∈ rowsAll st) ↔ r ∈ rowsAll d),
      ⟨szAll d, ⟨none, none, rfl⟩, xs0, d, [], rfl, upd_same, ?_, s2, hx, hs, by simp, fun p hp => (nomatch hp), (joint_todo d).symm, List.nodup_nil, fun r => by simp⟩, ?_⟩
    · rw [upd_ne nwp.symm, upd_same]
      rfl
    rintro m σ H2 ⟨⟨y3, y4, rfl⟩, vs, st, ms, rfl, ew, ep, sm, dx, sh, bd, fn, iff, nds, mem0⟩
    refine ⟨_, rfl, _, .inl ⟨vs, .inl (.inl ew), rfl⟩, ?_⟩
    rcases snoc_or st with rfl | ⟨st, e, rfl⟩
    · -- nothing waits
      cases dx
      refine iteF ⟨_, rfl, q _ _ sm (fun z => ?_) fun _ => ⟨pl, ms, rfl, npl, ep, nds, by omega, fun r => by rw [← mem0 r]; simp [rowsAll]⟩⟩
      rw [iff.mpr (todo_done fn)] at z
      cases z
    obtain ⟨us, v, rfl, dx', hv⟩ := snocDx dx
    have ne : (!(us ++ [v]).isEmpty) = true := by cases us <;> rfl
    rw [ne]
    rw [shortAll_append, Bool.and_eq_true] at sh
    have she : shortD e = true := by simpa [shortAll] using sh.2
    refine iteT ⟨fun σ' H' => ∃ m', m' < szAll (st ++ [e]) ∧ _, fun _ _ h => h, ?_⟩
    -- part = waiting.pop()
    refine ⟨_, rfl, .inl ⟨rfl, _, .inl (.inl ew)⟩, wl, _, v, rfl, rfl, ew, by simp, ?_⟩
    rw [List.dropLast_concat]
    have sm3 : Same H (upd H2 wl (.lst us)) := fun c o hc => by
      rw [upd_ne (ne_of_none hc nwl')]
      exact sm c o hc
    -- if not has_form(part): return None
    refine ⟨_, rfl, v, e, rfl, hv.up sm3, fun ds he y hy => ?_, _, rfl, ?_⟩
    · subst he
      refine Nat.le_trans (short_mem (by simpa [shortD] using she) hy) (by decide)
    cases hf : formD e with
    | false =>
      refine iteT (q .non _ sm3 (fun _ => rfl) fun z => ?_)
      exact absurd (iff.mp z) (todo_bad hf)
    | true =>
      obtain ⟨x1, es, rfl⟩ : ∃ x1 es, e = .tuple (.str x1 :: es) := by
        cases e with
        | tuple ds =>
          cases ds with
          | nil => cases hf
          | cons d0 ds =>
            simp only [formD, Bool.and_eq_true] at hf
            cases d0 with
            | str z => exact ⟨z, ds, rfl⟩
            | _ => cases hf.2
        | _ => cases hf
      cases hv with
      | tup hb hxs =>
      rename_i b xs
      cases hxs with
      | cons h0 hw =>
      rename_i v0 ws
      cases h0
      have lw := hw.length
      have l3 : es.length ≤ 3 := by
        simp only [formD, Bool.and_eq_true, decide_eq_true_eq] at hf
        exact hf.1
      -- many = len(part) - 1
      refine iteF ⟨_, rfl, b, _, rfl, .inr (SqT.of (sm3 _ _ hb)), _, 1, rfl, rfl, ?_⟩
      have em : ((V.str x1 :: ws).length : Int) - 1 = (es.length : Int) := by
        rw [List.length_cons]
        omega
      dsimp only
      rw [em]
      have ep3 : (upd H2 wl (.lst us)) pl = some (.dK (dictOf ms)) := by rw [upd_ne nwp.symm]; exact ep
      rw [szAll_append] at bd
      have z1 : szAll [PyData.tuple (.str x1 :: es)] = szAll es + 2 := by simp [szAll, szD]; omega
      rw [z1] at bd
      have lm : (dictOf ms).length < sizeLine := by
        rw [dictOf, List.length_map]
        exact Nat.lt_of_le_of_lt (show ms.length ≤ 100000 by omega) (by decide)
      have f0 : ∀ k, (x1, k) ∈ ms → k = es.length → Func ms := fun _ _ _ => fn
      -- places.setdefault(part[0], many) != many
      refine ⟨fun σ' H' => σ' = [some (.ref a), some (.ref pl), some (.ref wl), some (.ref b), some (.int es.length)] ∧ H' wl = some (.lst us) ∧ Same H H' ∧ ∃ ms', H' pl = some (.dK (dictOf ms')) ∧ (∀ p, p ∈ ms' ↔ p ∈ ms ∨ p = (x1, es.length)) ∧ Func ms' ∧ ms'.length ≤ ms.length + 1 ∧ (ms'.map Prod.fst).Nodup, ?_, ?_⟩
      · refine ⟨_, rfl, pl, rfl, .inl ⟨_, .inl ep3⟩, _, rfl, b, _, 0, _, rfl, rfl, SqT.of (sm3 _ _ hb), atI_nat (j := 0) rfl, _, rfl, dictOf ms, Sum.inr x1, ep3, rfl, lm, fun y hy => ?_, fun hy => ?_⟩
        · -- the name is there
          obtain ⟨k, mem, rfl⟩ := val_some hy
          by_cases hk : k = es.length
          · subst hk
            refine ⟨_, rfl, rfl, _, rfl, iteNS rfl ⟨rfl, upd_same, sm3, ms, ep3, fun p => ⟨.inl, fun z => ?_⟩, fn, Nat.le_succ _, nds⟩⟩
            rcases z with z | z
            · exact z
            · rw [z]
              exact mem
          · refine ⟨_, rfl, rfl, _, rfl, iteNT (fun z => hk ?_) (q .non _ sm3 (fun _ => rfl) fun z => ?_)⟩
            · have := V.int.inj z
              omega
            · exact absurd (iff.mp z) (todo_clash mem hk)
        · -- a new name
          have nk := val_none hy
          have npl' : H pl = none := npl
          refine ⟨_, rfl, rfl, _, rfl, iteNS rfl ⟨rfl, ?_, fun c o hc => ?_, ms ++ [(x1, es.length)], ?_, fun p => ?_, ?_, ?_, ?_⟩⟩
          · rw [upd_ne nwp, upd_same]
          · rw [upd_ne (ne_of_none hc npl')]
            exact sm3 c o hc
          · rw [upd_same, putK_new _ hy]
            simp [dictOf]
          · simp
          · rintro ⟨p1, p2⟩ hp ⟨r1, r2⟩ hr' e
            have e' : p1 = r1 := e
            subst e'
            simp only [List.mem_append, List.mem_singleton, Prod.mk.injEq] at hp hr'
            rcases hp with hp | ⟨g1, g2⟩
            · rcases hr' with hr' | ⟨g3, g4⟩
              · exact fn _ hp _ hr' rfl
              · subst g3
                exact absurd hp (nk _)
            · rcases hr' with hr' | ⟨g3, g4⟩
              · subst g1
                exact absurd hr' (nk _)
              · rw [g2, g4]
          · simp
          · rw [List.map_append, List.nodup_append]
            refine ⟨nds, by simp, fun a ha b hb e => ?_⟩
            obtain ⟨⟨r1, r2⟩, hr2, rfl⟩ := List.mem_map.mp ha
            simp at hb
            subst hb
            subst e
            exact nk _ hr2
      rintro σ' H' ⟨rfl, ew', sm', ms', ep', mem', fn', len', nds'⟩
      -- waiting.extend(part[1:])
      refine ⟨_, rfl, .inl ⟨rfl, _, .inl (.inl ew')⟩, _, rfl, 1, rfl, b, _, rfl, SqT.of (sm' _ _ hb), fun z => ?_, fun _ c nc => ?_⟩
      · exfalso
        have := z.1
        rw [show HT.sIx (V.str x1 :: ws).length 0 (some 1) = min 1 (V.str x1 :: ws).length from HT.sIx_nat _ 0 1, List.length_cons] at this
        omega
      have nwc : wl ≠ c := fun e => by
        rw [← e, ew'] at nc
        cases nc
      have npc : pl ≠ c := fun e => by
        rw [← e, ep'] at nc
        cases nc
      have lus := dx'.length
      have lst := length_le_sz st
      refine ⟨wl, c, us, ws, rfl, rfl, by rw [upd_ne nwc]; exact ew', ?_, ?_, ?_⟩
      · rw [cut_one (by simp)]
        exact SqT.of upd_same
      · exact Nat.le_trans (show us.length + ws.length ≤ 100003 by omega) (by decide)
      · refine ⟨szAll (st ++ es), ?_, ⟨_, _, rfl⟩, us ++ ws, st ++ es, ms', rfl, upd_same, ?_, fun d o hd => ?_, DxAll.append dx' hw, ?_, ?_, fn', iff.trans (todo_step hf mem'), nds', fun r => ?_⟩
        · rw [szAll_append, szAll_append, z1]
          omega
        · rw [upd_ne nwp.symm, upd_ne npc]
          exact ep'
        · rw [upd_ne (ne_of_none hd nwl'), upd_ne]
          · exact sm' d o hd
          · rintro rfl
            rw [sm' _ _ hd] at nc
            cases nc
        · rw [shortAll_append, sh.1]
          have z : x1.length ≤ 1000 ∧ shortAll es = true := by simpa [shortD, shortAll] using she
          simpa using z.2
        · rw [szAll_append]
          omega
        · rw [← mem0 r, mem' r, rowsAll_append, rowsAll_append]
          simp only [List.mem_append, rowsAll, rowsD, headD, List.append_nil, List.mem_cons]
          constructor
          · rintro ((h | h) | h | h)
            · exact .inl h
            · exact .inr (.inr (.inl h))
            · exact .inr (.inl h)
            · exact .inr (.inr (.inr h))
          · rintro (h | h | h | h)
            · exact .inl (.inl h)
            · exact .inr (.inl h)
            · exact .inl (.inr h)
            · exact .inr (.inr h)
theorem ok_joint (T : Tx K mg) : FnOk P w K mg base CX0 3 T.ajoint_places T.djoint_places ["values"] (spJoint K) := (ok_jointL T).imp fun vs H Q E h => by
  obtain ⟨a, x, d, rfl, ha, hx, hs, hz, q⟩ := h
  have e1 : szAll [d] = szD d := by simp [szAll]
  have e2 : rowsAll [d] = rowsD d := by simp [rowsAll]
  refine ⟨a, [x], [d], rfl, ha, .cons hx .nil, by simp [shortAll, hs], by rw [e1]; exact hz, fun v H' s h1 h2 => q v H' s (fun z => h1 (by rw [joint_one]; exact z)) fun z => ?_⟩
  obtain ⟨p, ms, a1, a2, a3, a4, a5, a6⟩ := h2 (by rw [joint_one]; exact z)
  exact ⟨p, ms, a1, a2, a3, a4, by rw [← e1]; exact a5, fun r => by rw [← e2]; exact a6 r⟩
end
end K14
/-! is_term, is_cell, check_term, make_term, make_cells. -/
namespace Kx
open PySem PySem.Spec PyProof.Rows L2
section
variable {X : Cx} {CX : CXT} {k : Nat} {f : Addr} {sp : Sp} {E : XK} {x : Str} {e : Expr} {es : List Expr} {t : TA} {p pos : Pos}
/-- f(e, ..), f a def with a star -/
theorem pe_callR (F : L2.FnR X.prog X.w X.K X.mg X.base CX k f sp) (hr : Room k X.A) (hg : Gl X x) (hm : X.mg x = some (.ref f)) (hk : PySem.W.keepIn X.K (.ref f) = true) (hx : Passes CX X E) (ha : PA X (e :: es) t) (hd : (x == ("__debug__" : Str)) = false := by decide)
    (he : starEach (e :: es) X.env = (false, eval e X.env) :: starEach es X.env := by rfl) (hpl : (backTo pos (starEach es X.env)).any (·.1) = false := by rfl) :
    PE X (.Call (.Name x p) (e :: es) [] pos) (tCall sp [] E t) := by
  refine ⟨fun pins s σ H Q I h => wpAny_Call_Name_kw (ld_glob I hg hm ?_ hd)⟩
  refine PySem.W.callWith_K (h₀ := X.base) I.ok.mod.kin hk (thn (ha.run pos pins s σ H _ I h) ?_) he hpl
  rintro us s1 ⟨vs, H1, I1, r, q⟩
  rw [List.append_nil] at q
  exact ⟨I1.kIn, wpAny_call (run_fnR F hr hx I1 r q)⟩
theorem pe_callR0 (F : L2.FnR X.prog X.w X.K X.mg X.base CX k f sp) (hr : Room k X.A) (hg : Gl X x) (hm : X.mg x = some (.ref f)) (hk : PySem.W.keepIn X.K (.ref f) = true) (hx : Passes CX X E) (hd : (x == ("__debug__" : Str)) = false := by decide) :
    PE X (.Call (.Name x p) [] [] pos) (tCall sp [] E tNil) := by
  refine ⟨fun pins s σ H Q I h => wpAny_Call_Name_kw (ld_glob I hg hm ?_ hd)⟩
  exact PySem.W.callWith_K0 I.kIn hk (wpAny_call (run_fnR F hr hx I .nil h))
end
end Kx
namespace K14
open PySem PySem.Spec PyProof.Rows L2 Kx
def cellD : PyData → Bool
  | .tuple ds => termD (.tuple ds) && decide (ds.length = 1)
  | _ => false
theorem cellD_eq {d : PyData} (h : termD d = true) : ∃ ds, d = .tuple ds := by
  cases d with
  | tuple ds => exact ⟨ds, rfl⟩
  | _ => simp [termD, formedD] at h
section
variable {P : Program} {w : World} {K : PySem.W.Frag} {mg : Str → Option Value} {base : Heap}
/-- x stands for d, of a bounded size -/
def Dz (K : PySem.W.Frag) (H : Hp) (x : V) (d : PyData) : Prop := Dx K H x d ∧ shortD d = true ∧ szD d ≤ 100000
theorem Dz.up {H H' : Hp} {x : V} {d : PyData} (h : Dz K H x d) (e : Same H H') : Dz K H' x d := ⟨h.1.up e, h.2⟩
def spTerm (K : PySem.W.Frag) : Sp := fun vs H Q _ => ∃ (x : V) (d : PyData), vs = [x] ∧ Dz K H x d ∧ ∀ H', Same H H' → Q (.bl (termD d)) H'
theorem ok_term (T : Tx K mg) : FnOk P w K mg base CX0 4 T.ais_term T.dis_term ["value"] (spTerm K) := by
  have nd := sc_is_term.nd
  have G := ok_joint (P := P) (w := w) (base := base) T
  refine T.fis_term.ok sc_is_term (fun vs H Q E h => ?_) (fun cdv A outer s H vs Q E hr h => ?_)
  · obtain ⟨x, d, rfl, _⟩ := h
    rfl
  · obtain ⟨x, d, rfl, ⟨hx, hs, hz⟩, q⟩ := h
    refine ⟨_, (pss_one (ps_ret (pe_cmpR op_notN (pe_call G (hr.mono (by decide)) (by rfl) T.gjoint_places T.fjoint_places.kp T.njoint_places .nil pass0 (pa_cons (pe_lst (pa_cons (pv 0) pa_nil)) pa_nil)) pe_non (nomark _)))), ?_⟩
    refine ⟨_, rfl, (by show 1 ≤ sizeLine; decide), fun p np => ?_⟩
    refine ⟨p, x, d, rfl, .inl (.inl upd_same), hx.up (same_new np), hs, hz, fun v H' sm n1 n2 => ⟨rfl, ?_⟩⟩
    have fin := q H' ((same_new np).trans sm)
    cases e : termD d with
    | false =>
      rw [e] at fin
      rw [n1 e]
      exact fin
    | true =>
      rw [e] at fin
      obtain ⟨c, _, ec, _⟩ := n2 e
      rw [ec]
      exact fin
def spCheck (K : PySem.W.Frag) : Sp := fun vs H Q _ => ∃ (x : V) (d : PyData), vs = [x] ∧ Dz K H x d ∧ termD d = true ∧ ∀ H', Same H H' → Q .non H'
theorem ok_check (T : Tx K mg) : FnOk P w K mg base CX0 5 T.acheck_term T.dcheck_term ["value"] (spCheck K) := by
  have nd := sc_check_term.nd
  have G := ok_term (P := P) (w := w) (base := base) T
  refine T.fcheck_term.ok sc_check_term (fun vs H Q E h => ?_) (fun cdv A outer s H vs Q E hr h => ?_)
  · obtain ⟨x, d, rfl, _⟩ := h
    rfl
  · obtain ⟨x, d, rfl, hx, ht, q⟩ := h
    refine ⟨_, (pss_one (ps_if (pt_not (pt_val (pe_call G (hr.mono (by decide)) (by rfl) T.gis_term T.fis_term.kp T.nis_term .nil pass0 (pa_cons (pv 0) pa_nil)))) (pss_one ps_never) pss_nil)), ?_⟩
    refine ⟨_, rfl, x, d, rfl, hx, fun H' sm => ⟨_, rfl, ?_⟩⟩
    rw [ht]
    exact iteF (q H' sm)
end
end K14
/-! Displays of data, all at once. -/
namespace Kx
open PySem PySem.Spec PyProof.Rows L2
/-- the heap without S -/
def OffS (S : List Addr) (H : Hp) : Hp := fun b => if b ∈ S then none else H b
def Olds (S : List Addr) (H : Hp) : Prop := ∀ b, b ∈ S → H b ≠ none
section
variable {S : List Addr} {H H' : Hp}
theorem OffS.of {b : Addr} {o : HO} (h : OffS S H b = some o) : b ∉ S ∧ H b = some o := by
  unfold OffS at h
  by_cases e : b ∈ S
  · rw [if_pos e] at h
    cases h
  · rw [if_neg e] at h
    exact ⟨e, h⟩
theorem OffS.out {b : Addr} {o : HO} (n : b ∉ S) (h : H b = some o) : OffS S H b = some o := by
  unfold OffS
  rw [if_neg n]
  exact h
theorem OffS.same (e : Same H H') : Same (OffS S H) (OffS S H') := fun b o h => by
  obtain ⟨n, h⟩ := OffS.of h
  exact OffS.out n (e b o h)
theorem OffS.all : Same (OffS S H) H := fun b o h => (OffS.of h).2
theorem Olds.up (h : Olds S H) (e : Same H H') : Olds S H' := fun b hb z => by
  have := h b hb
  cases k : H b with
  | none => exact this k
  | some o =>
    rw [e b o k] at z
    cases z
theorem Olds.new {p : Addr} (h : Olds S H) (e : H p = none) : p ∉ S := fun z => h p z e
theorem same_put {p : Addr} {o : HO} (h : H p = none) : Same H (upd H p o) := fun b x e => by
  rw [upd_ne (ne_of_none e h)]
  exact e
/-- te makes d anew -/
def Makes (K : PySem.W.Frag) (S : List Addr) (te : TE) (d : PyData) : Prop := ∀ (σ : L2.St) (H : Hp) (Q : VK), Olds S H → (∀ x H', Same H H' → Dx K (OffS S H') x d → Q x H') → te σ H Q
def MakesAll (K : PySem.W.Frag) (S : List Addr) (ta : TA) (ds : List PyData) : Prop := ∀ (σ : L2.St) (H : Hp) (Q : List V → Hp → Prop), Olds S H → (∀ xs H', Same H H' → DxAll K (OffS S H') xs ds → Q xs H') → ta σ H Q
variable {K : PySem.W.Frag} {te : TE} {ta : TA} {d : PyData} {ds : List PyData}
theorem mk_str (x : Str) : Makes K S (tC (.str x)) (.str x) := fun σ H Q _ q => q _ H (Same.refl H) (.str x)
theorem mk_int (i : Int) : Makes K S (tC (.int i)) (.int i) := fun σ H Q _ q => q _ H (Same.refl H) (.int i)
theorem mk_bl (b : Bool) : Makes K S (tC (.bl b)) (.bool b) := fun σ H Q _ q => q _ H (Same.refl H) (.bl b)
theorem mk_non : Makes K S (tC .non) .none := fun σ H Q _ q => q _ H (Same.refl H) .non
theorem mk_nil : MakesAll K S tNil [] := fun σ H Q _ q => q _ H (Same.refl H) .nil
theorem mk_cons (h1 : Makes K S te d) (h2 : MakesAll K S ta ds) : MakesAll K S (tCons te ta) (d :: ds) := fun σ H Q o q =>
  h1 σ H _ o fun x H1 s1 d1 => h2 σ H1 _ (o.up s1) fun xs H2 s2 d2 => q _ H2 (s1.trans s2) (.cons (d1.up (OffS.same s2)) d2)
theorem mk_tup (h : MakesAll K S ta ds) (few : ds.length ≤ sizeLine := by decide) : Makes K S (tTup ta) (.tuple ds) := fun σ H Q o q =>
  h σ H _ o fun xs H1 s1 d1 => ⟨by rw [d1.length]; exact few, fun p np => q _ _ (s1.trans (same_put np)) (.tup (OffS.out ((o.up s1).new np) upd_same) (d1.up (OffS.same (same_put np))))⟩
theorem mk_lst (h : MakesAll K S ta ds) (few : ds.length ≤ sizeLine := by decide) : Makes K S (tLst ta) (.list ds) := fun σ H Q o q =>
  h σ H _ o fun xs H1 s1 d1 => ⟨by rw [d1.length]; exact few, fun p np => q _ _ (s1.trans (same_put np)) (.lst (OffS.out ((o.up s1).new np) upd_same) (d1.up (OffS.same (same_put np))))⟩
theorem mk_dic0 : Makes K S tDNewK (.dict []) := fun σ H Q o q p np => q _ _ (same_put np) (.dic (OffS.out (o.new np) upd_same) .nil)
theorem mk_dic1 (k : Str) (i : Int) : Makes K S (tDisp [(tC (.str k), tC (.int i))]) (.dict [(.str k, .int i)]) := fun σ H Q o q p np => by
  refine ⟨upd_same, [(.inr k, .int i)], rfl, (by show 1 ≤ 15; decide), q _ _ (fun b u hb => ?_) (.dic (OffS.out (o.new np) upd_same) (KvD.int .nil))⟩
  have n := ne_of_none hb np
  rw [upd_ne n, upd_ne n]
  exact hb
/-- xs + ys of such lists -/
theorem mk_cat {tb : TE} {es : List PyData} (h1 : Makes K S te (.list ds)) (h2 : Makes K S tb (.list es)) (few : ds.length + es.length ≤ sizeLine := by decide) : Makes K S (tOp rCat te tb) (.list (ds ++ es)) := fun σ H Q o q =>
  h1 σ H _ o fun x H1 s1 d1 => h2 σ H1 _ (o.up s1) fun y H2 s2 d2 => by
    have d1 := d1.up (OffS.same s2)
    cases d1 with
    | lst ha hx =>
    cases d2 with
    | lst hb hy =>
    rename_i a xs b ys
    refine ⟨a, b, xs, ys, rfl, rfl, OffS.all _ _ ha, OffS.all _ _ hb, by rw [hx.length, hy.length]; exact few, fun p np => ?_⟩
    exact q _ _ (s1.trans (s2.trans (same_put np))) (.lst (OffS.out (((o.up s1).up s2).new np) upd_same) (DxAll.append (hx.up (OffS.same (same_put np))) (hy.up (OffS.same (same_put np)))))
/-- name = [..] of such data -/
theorem asg_mk {j : Nat} {rest : TS} {D : Ends} {σ : L2.St} (m : Makes K S te d) (o : Olds S H) (q : ∀ x H', Same H H' → Dx K (OffS S H') x d → rest D (σ.set j (some x)) H') : tSeq (tAsg te (gName j)) rest D σ H := m σ H _ o q
/-- name = name + [..] of such data -/
theorem cat_mk {j : Nat} {rest : TS} {D : Ends} {σ : L2.St} {i : Nat} {x : V} {es : List PyData} {tb : TE} (hx : σ[i]? = some (some x)) (d1 : Dx K (OffS S H) x (.list ds)) (m : Makes K S tb (.list es)) (few : ds.length + es.length ≤ sizeLine) (o : Olds S H)
    (q : ∀ x H', Same H H' → Dx K (OffS S H') x (.list (ds ++ es)) → rest D (σ.set j (some x)) H') : tSeq (tAsg (tOp rCat (tVar i) tb) (gName j)) rest D σ H :=
  ⟨x, hx, m σ H _ o fun y H2 s2 d2 => by
    have d1 := d1.up (OffS.same s2)
    cases d1 with
    | @lst a xs _ ha hx =>
    cases d2 with
    | @lst b ys _ hb hy =>
    refine ⟨a, b, xs, ys, rfl, rfl, OffS.all _ _ ha, OffS.all _ _ hb, by rw [hx.length, hy.length]; exact few, fun p np => ?_⟩
    exact q _ _ (s2.trans (same_put np)) (.lst (OffS.out ((o.up s2).new np) upd_same) (DxAll.append (hx.up (OffS.same (same_put np))) (hy.up (OffS.same (same_put np)))))⟩
end
end Kx
/-! A term of the turn. -/
namespace K14
open PySem PySem.Spec PyProof.Rows L2 Kx
/-- tuples stand -/
def Tups (H H' : Hp) : Prop := ∀ b xs, H b = some (.tup xs) → H' b = some (.tup xs)
theorem Tups.of {H H' : Hp} (x : Same H H') : Tups H H' := fun b xs h => x b _ h
theorem Tups.trans {H H1 H2 : Hp} (x : Tups H H1) (y : Tups H1 H2) : Tups H H2 := fun b xs h => y b xs (x b xs h)
theorem Tups.but {a : Addr} {n : Nat} {H H' : Hp} (x : But a H H') (d : Dice H a n) : Tups H H' := fun b xs h => by
  obtain ⟨_, _, _, z, _⟩ := d
  exact x b _ h (ne_of h z (fun e => nomatch e))
theorem Tups.lst {D : Addr} {H : Hp} {xs ys : List V} (h : H D = some (.lst xs)) : Tups H (upd H D (.lst ys)) := fun b zs e => by
  rw [upd_ne (ne_of e h (fun e => nomatch e))]
  exact e
mutual
/-- no list, no dict -/
def pureD : PyData → Bool
  | .list _ => false
  | .dict _ => false
  | .tuple ds => pureAll ds
  | _ => true
def pureAll : List PyData → Bool
  | [] => true
  | d :: ds => pureD d && pureAll ds
end
mutual
theorem Dx.ts {K : PySem.W.Frag} {H H' : Hp} (t : Tups H H') : ∀ (d : PyData) (x : V), pureD d = true → Dx K H x d → Dx K H' x d
  | .none, _, _, h => by cases h; exact .non
  | .bool b, _, _, h => by cases h; exact .bl b
  | .int i, _, _, h => by cases h; exact .int i
  | .str x, _, _, h => by cases h; exact .str x
  | .list ds, _, e, h => by cases e
  | .tuple ds, _, e, h => by cases h with | tup a b => exact .tup (t _ _ a) (DxAll.ts t ds _ (by simpa [pureD] using e) b)
  | .dict ds, _, e, h => by cases e
theorem DxAll.ts {K : PySem.W.Frag} {H H' : Hp} (t : Tups H H') : ∀ (ds : List PyData) (xs : List V), pureAll ds = true → DxAll K H xs ds → DxAll K H' xs ds
  | [], _, _, h => by cases h; exact .nil
  | d :: ds, _, e, h => by
    have e : pureD d = true ∧ pureAll ds = true := by simpa [pureAll] using e
    cases h with | cons a b => exact .cons (Dx.ts t d _ e.1 a) (DxAll.ts t ds _ e.2 b)
end
theorem pure_name {d : PyData} (h : nameD d = true) : pureD d = true := by
  cases d with
  | str x => rfl
  | _ => cases h
mutual
theorem pure_formed : ∀ (d : PyData), formedD d = true → pureD d = true
  | .none, h => rfl
  | .bool _, h => rfl
  | .int _, h => rfl
  | .str _, h => rfl
  | .list ds, h => by cases h
  | .dict ds, h => by cases h
  | .tuple [], h => rfl
  | .tuple (d :: ds), h => by
    simp only [formedD, Bool.and_eq_true] at h
    simp only [pureD, pureAll, Bool.and_eq_true]
    exact ⟨pure_name h.1.2, pure_formedAll ds h.2⟩
theorem pure_formedAll : ∀ (ds : List PyData), formedAll ds = true → pureAll ds = true
  | [], h => rfl
  | d :: ds, h => by
    simp only [formedAll, Bool.and_eq_true] at h
    simp only [pureAll, Bool.and_eq_true]
    exact ⟨pure_formed d h.1, pure_formedAll ds h.2⟩
end
theorem formedAll_snoc {ds : List PyData} {d : PyData} : formedAll (ds ++ [d]) = (formedAll ds && formedD d) := by
  rw [formedAll_append]
  simp [formedAll]
theorem depthAll_snoc {n : Nat} : ∀ {ds : List PyData} {d : PyData}, PyData.depthAll ds ≤ n → d.depth ≤ n → PyData.depthAll (ds ++ [d]) ≤ n
  | [], d, _, h => by simpa [PyData.depthAll] using h
  | e :: ds, d, h1, h2 => by
    rw [List.cons_append, PyData.depthAll]
    rw [PyData.depthAll] at h1
    have := depthAll_snoc (ds := ds) (d := d) (n := n) (by omega) h2
    omega
theorem formed_shape {d : PyData} (h : formedD d = true) : ∃ x ds, d = .tuple (.str x :: ds) ∧ ds.length ≤ 3 ∧ isNm x = true ∧ formedAll ds = true := by
  cases d with
  | tuple ds =>
    cases ds with
    | nil => cases h
    | cons d0 ds =>
      simp only [formedD, Bool.and_eq_true, decide_eq_true_eq] at h
      cases d0 with
      | str z => exact ⟨z, ds, rfl, h.1.1, h.1.2, h.2⟩
      | _ => cases h.1.2
  | _ => cases h
theorem formedAll_get : ∀ {ds : List PyData} {i : Nat} {d : PyData}, formedAll ds = true → ds[i]? = some d → formedD d = true
  | [], _, _, _, h => by simp at h
  | x :: ds, 0, d, hf, h => by
    simp at h
    rw [formedAll, Bool.and_eq_true, h] at hf
    exact hf.1
  | x :: ds, i + 1, d, hf, h => by
    rw [formedAll, Bool.and_eq_true] at hf
    exact formedAll_get hf.2 (by simpa using h)
theorem depthAll_get : ∀ {ds : List PyData} {i : Nat} {d : PyData}, ds[i]? = some d → d.depth ≤ PyData.depthAll ds
  | [], _, _, h => by simp at h
  | x :: ds, 0, d, h => by
    simp at h
    rw [h, PyData.depthAll]
    omega
  | x :: ds, i + 1, d, h => by
    have := depthAll_get (ds := ds) (i := i) (d := d) (by simpa using h)
    rw [PyData.depthAll]
    omega
theorem rowsAll_take : ∀ {ds : List PyData} {i : Nat} {d : PyData}, ds[i]? = some d → rowsAll (ds.take (i + 1)) = rowsAll (ds.take i) ++ rowsD d
  | ds, i, d, h => by
    rw [List.take_add_one, h, rowsAll_append]
    simp [rowsAll]
theorem rowsAll_take_le : ∀ (ds : List PyData) (i : Nat), (rowsAll (ds.take i)).length ≤ (rowsAll ds).length
  | ds, i => by
    have e := List.take_append_drop i ds
    have z : rowsAll (ds.take i ++ ds.drop i) = rowsAll ds := by rw [e]
    rw [rowsAll_append] at z
    rw [← z, List.length_append]
    omega
end K14
/-! t[:1:-1] of a tuple of two to four. -/
namespace Kx
open PySem PySem.Spec PyProof.Rows L2 HT
section
variable {prog : Program} {w : World} {A : Around} {E : Value → Shared → Prop} {s : Shared}
theorem back_adjust {n : Nat} (h : 2 ≤ n) : Builtin.Slice.sliceAdjust none (some 1) (-1) (n : Int) = ((n : Int) - 1, 1) := by
  have neg : (-1 : Int) < 0 := by decide
  unfold Builtin.Slice.sliceAdjust
  simp only [neg, if_true]
  refine Prod.ext ?_ ?_
  · rfl
  · have no : ¬ ((1 : Int) < 0) := by decide
    simp only [no, if_false]
    omega
theorem back_places {n : Nat} (h : 2 ≤ n) : Builtin.Slice.slicePlaces ((n : Int) - 1) 1 (-1) = n - 2 := by
  unfold Builtin.Slice.slicePlaces
  have no : ¬ ((-1 : Int) > 0) := by decide
  simp only [no, if_false]
  rw [show -(-1 : Int) = 1 from rfl, Int.ediv_one]
  split <;> omega
theorem back_pick : ∀ {xs : List Value}, 2 ≤ xs.length → xs.length ≤ 4 → ((List.range (xs.length - 2)).filterMap fun (m : Nat) => xs.toArray[((xs.length : Int) - 1 + (m : Int) * -1).toNat]?) = (xs.drop 2).reverse
  | [a, b], _, _ => rfl
  | [a, b, c], _, _ => rfl
  | [a, b, c, d], _, _ => rfl
  | [], h, _ => by simp at h
  | [_], h, _ => by simp at h
  | _ :: _ :: _ :: _ :: _ :: _, _, h => by simp at h
theorem back_applied {sl : Addr} {vl vu vs : Value} {n : Nat} {Q : Int × Int × Nat → Shared → Prop} (hn : 2 ≤ n) (hs : s.heap.IsSliceOf sl vl vu vs) (pl : IsPart vl none) (pu : IsPart vu (some 1)) (ps : IsPart vs (some (-1)))
    (h : Q ((n : Int) - 1, -1, n - 2) s) : wpAny (model prog w) A (Builtin.Slice.sliceApplied (.ref sl) (pure (n : Int))) Q E s := by
  obtain ⟨ob, h1, h2, h3⟩ := id hs
  unfold Builtin.Slice.sliceApplied Builtin.Slice.sliceFields
  refine wpAny_bind (wpAny_bind (wpAny_field h1 h3 (x := vl) rfl (wpAny_bind (wpAny_field h1 h3 (x := vu) rfl (wpAny_bind (wpAny_field h1 h3 (x := vs) rfl (wpAny_pure ?_)))))))
  refine wpAny_bind (slicePart_ ps ?_)
  show wpAny _ _ (if ((-1 : Int) == 0) = true then _ else _) _ _ s
  rw [if_neg (by decide)]
  refine wpAny_bind (slicePart_ pl (wpAny_bind (slicePart_ pu (wpAny_bind (wpAny_pure ?_)))))
  show wpAny _ _ (match Builtin.Slice.sliceAdjust none (some 1) (-1) (n : Int) with | (lo, hi) => pure (lo, (-1 : Int), Builtin.Slice.slicePlaces lo hi (-1))) _ _ s
  rw [back_adjust hn]
  show wpAny _ _ (pure ((n : Int) - 1, (-1 : Int), Builtin.Slice.slicePlaces ((n : Int) - 1) 1 (-1))) _ _ s
  rw [back_places hn]
  exact wpAny_pure h
theorem getItem_back {t sl : Addr} {xs : List Value} {vl vu vs : Value} {Q : Value → Shared → Prop} (ht : IsTup s.heap t xs.toArray) (h2 : 2 ≤ xs.length) (h4 : xs.length ≤ 4) (hs : s.heap.IsSliceOf sl vl vu vs) (pl : IsPart vl none) (pu : IsPart vu (some 1)) (ps : IsPart vs (some (-1)))
    (h : Q (.ref s.heap.objs.size) { s with heap := s.heap.push { cls := .type "tuple", data := .seq (xs.drop 2).reverse.toArray } }) : wpAny (model prog w) A (getItem (.ref t) (.ref sl)) Q E s := by
  have few : sizeOk (.seq (xs.drop 2).reverse.toArray) := by
    show (xs.drop 2).reverse.toArray.size ≤ sizeLine
    rw [List.size_toArray, List.length_reverse, List.length_drop]
    exact Nat.le_trans (show xs.length - 2 ≤ 4 by omega) (by decide)
  obtain ⟨ob, ho, hc, hd⟩ := id hs
  have isS : s.TypeIs (.ref sl) "slice" := ⟨ob, ho, hc⟩
  unfold getItem
  try with_reducible refine wpAny_holding ?_
  first | refine wpAny_bind (wpAny_pure ?_) | skip
  refine wpAny_bind (wpAny_sequenceKey ht.typeIs (by decide) ?_)
  refine wpAny_bind (wpAny_callSpecial?_slot (name := Str.ofString "__getitem__") ht.typeIs PyProof.Rows.slot_tuple_getitem
    (wpAny_call_entry PyProof.Rows.slot_tuple_getitem ht.typeIs entry_tuple_getitem ?_ (args_tuple_getitem _ _)))
  show wpAny _ _ (Builtin.Tuple.tupleItemsOf (.ref t) >>= _) _ _ s
  refine wpAny_bind (tupleItemsOf_ ht ?_)
  refine wpAny_bind (wpAny_typeOf isS ?_)
  rw [if_pos (by decide)]
  have sz : xs.toArray.size = xs.length := List.size_toArray ..
  refine wpAny_bind (back_applied (n := xs.toArray.size) (by rw [sz]; exact h2) hs pl pu ps ?_)
  rw [sz]
  have no : ¬ ((((xs.length : Int) - 1) == 0 && (-1 : Int) == 1 && (xs.length - 2) == xs.length) = true) := by simp
  show wpAny _ _ (if (((xs.length : Int) - 1) == 0 && (-1 : Int) == 1 && (xs.length - 2) == xs.length) = true then _ else _) _ _ s
  rw [if_neg no, back_pick h2 h4]
  first
    | exact wpAny_bind (m := Builtin.Tuple.tupleExact _) (wpAny_newObj_type (wpAny_pure ⟨_, rfl, wpAny_pure h⟩) few)
    | exact wpAny_bind (m := Builtin.Tuple.tupleExact _) (wpAny_newObj_type (wpAny_bind (wpAny_pure (wpAny_pure ⟨_, rfl, wpAny_pure h⟩))) few)
    | exact wpAny_bind (wpAny_bind (m := Builtin.Tuple.tupleExact _) (wpAny_newObj_type (wpAny_pure (wpAny_pure ⟨_, rfl, wpAny_pure h⟩)) few))
    | exact wpAny_bind (wpAny_bind (m := Builtin.Tuple.tupleExact _) (wpAny_newObj_type (wpAny_pure ⟨_, rfl, wpAny_pure h⟩) few))
end
/-- t[:1:-1], t of two to four: what stands behind the second, from the end -/
def tBack (K : PySem.W.Frag) (te : TE) : TE := fun σ H Q => te σ H fun x H1 => ∃ a xs, x = .ref a ∧ SqT K H1 a xs ∧ 2 ≤ xs.length ∧ xs.length ≤ 4 ∧ ∀ p, H1 p = none → Q (.ref p) (upd H1 p (.tup (xs.drop 2).reverse))
section
variable {X : Cx}
theorem pe_back {e : Expr} {te : TE} {k k2 : Nat} {p1 p2 p3 p4 pos : Pos} (he : PE X e te) : PE X (.Subscript e (.Slice none (some (.Constant (.int 1) k2 p4)) (some (.UnaryOp .USub (.Constant (.int 1) k p1) p2)) p3) pos) (tBack X.K te) := by
  refine ⟨fun pins s σ H Q I h => ?_⟩
  refine Subscript_ (thn (he.run pins s σ H _ I h) fun v s1 ⟨x, H1, I1, r1, q1⟩ => ?_)
  obtain ⟨a, xs, ex, hx, l2, l4, q⟩ := q1
  subst ex
  cases r1
  have hlo : PO X (some (.Constant (.int 1) k2 p4)) (tPart (tC (.int 1))) := po_some pe_int
  have hst : PO X (some (.UnaryOp .USub (.Constant (.int 1) k p1) p2)) (tPart (tUn (rU fun i => .int (-i)) (tC (.int 1)))) := po_some (pe_un un_neg pe_int)
  refine wpAny_Slice (thn (po_none.run pins s1 σ H1 (fun o G => o = none ∧ G = H1) I1 ⟨rfl, rfl⟩) fun vl s2 ⟨l, H2, I2, pl, el, e2⟩ => ?_)
  subst el e2
  refine thn (hlo.run pins s2 σ H2 (fun o G => o = some 1 ∧ G = H2) I2 ⟨1, rfl, rfl, rfl⟩) fun vu s3 ⟨u, H3, I3, pu, eu, e3⟩ => ?_
  subst eu e3
  refine thn (hst.run pins s3 σ H3 (fun o G => o = some (-1) ∧ G = H3) I3 ⟨1, rfl, -1, rfl, rfl, rfl⟩) fun vs s4 ⟨o, H4, I4, ps, eo, e4⟩ => ?_
  subst eo e4
  have I5 : Inv X pins σ H4 { s4 with heap := s4.heap.push { cls := .type "slice", data := .fields #[vl, vu, vs] } } := I4.kept (t' := s4.toks) fun b ob q => Heap.get?_push_of_some _ q
  obtain ⟨its, r, ht, hz⟩ := I5.tuple hx
  have hlen := r.length
  show wpAny (model X.prog X.w) X.A (subscriptTail e (.Slice none (some (.Constant (.int 1) k2 p4)) (some (.UnaryOp .USub (.Constant (.int 1) k p1) p2)) p3) (.ref a) (.ref s4.heap.objs.size)) (EP X pins σ Q) X.xe { s4 with heap := s4.heap.push { cls := .type "slice", data := .fields #[vl, vu, vs] } }
  refine tail_any (ops := [.ref a, .ref s4.heap.objs.size]) ht.typeIs (PyProof.Rows.slot_tuple_getitem.lookup) ?_ (by with_unfolding_all rfl)
  refine getItem_back ht (by omega) (by omega) (Heap.IsSliceOf.new _ vl vu vs) pl pu ps ?_
  refine ⟨.ref _, _, I5.laid (t' := s4.toks) (o := .tup (xs.drop 2).reverse) (fun b ob q => Heap.get?_push_of_some _ q) (Nat.le_refl _) ?_, rfl, q _ (I5.hok.fresh (Nat.le_refl _))⟩
  exact ⟨by rw [List.length_reverse, List.length_drop]; omega, _, (r.drop 2).reverse, IsTup.new _ _⟩
end
end Kx
/-! Texts of terms. -/
namespace K14
open PySem PySem.Spec PyProof.Rows L2 Kx
/-- a text of signs -/
def tS (l : List Nat) : Str := ⟨l.toArray⟩
theorem tS_list (x : Str) : tS x.cps.toList = x := by
  cases x
  rfl
theorem tS_app (l m : List Nat) : tS l ++ tS m = tS (l ++ m) := by
  show Str.append _ _ = _
  unfold Str.append tS
  simp
theorem str_app (x y : Str) : (x ++ y).cps.toList = x.cps.toList ++ y.cps.toList := by
  show (Str.append x y).cps.toList = _
  unfold Str.append
  simp
theorem tS_len (l : List Nat) : (tS l).length = l.length := by
  show l.toArray.size = _
  simp
def catS (ws : List Str) : List Nat := ws.flatMap fun w => w.cps.toList
theorem catS_snoc (ws : List Str) (x : Str) : catS (ws ++ [x]) = catS ws ++ x.cps.toList := by
  simp [catS, List.flatMap_append]
theorem glue_fold (g : Array Nat) : ∀ (ps : List Str) (a : Array Nat), (ps.foldl (fun acc p => acc ++ g ++ p.cps) a).toList = a.toList ++ ps.flatMap fun p => g.toList ++ p.cps.toList
  | [], a => by simp
  | p :: ps, a => by
    rw [List.foldl_cons, glue_fold g ps, List.flatMap_cons]
    simp
theorem join_none (ws : List Str) : Txt.join "" ws = tS (catS ws) := by
  have e : (Txt.join "" ws).cps.toList = catS ws := by
    cases ws with
    | nil => rfl
    | cons x ws =>
      show (((x :: ws).drop 1).foldl (fun acc p => acc ++ (("" : Str)).cps ++ p.cps) x.cps).toList = _
      rw [glue_fold]
      rfl
  rw [← tS_list (Txt.join "" ws), e]
theorem join_comma : ∀ (w : Str) (ws : List Str), Txt.join "," (w :: ws) = tS (w.cps.toList ++ ws.flatMap fun p => 44 :: p.cps.toList)
  | w, ws => by
    have e : (Txt.join "," (w :: ws)).cps.toList = w.cps.toList ++ ws.flatMap fun p => 44 :: p.cps.toList := by
      show (((w :: ws).drop 1).foldl (fun acc p => acc ++ (("," : Str)).cps ++ p.cps) w.cps).toList = _
      rw [glue_fold]
      rfl
    rw [← tS_list (Txt.join "," (w :: ws)), e]
def nmC : PyData → List Nat
  | .str x => x.cps.toList
  | _ => []
mutual
/-- the text of a formed datum -/
def tx : PyData → List Nat
  | .tuple (d :: ds) => nmC d ++ txA ds
  | _ => []
def txA : List PyData → List Nat
  | [] => []
  | e :: es => 40 :: (tx e ++ (txM es ++ [41]))
def txM : List PyData → List Nat
  | [] => []
  | e :: es => 44 :: (tx e ++ txM es)
end
/-- what an item that waits will give -/
def rx : PyData → List Nat
  | .str x => x.cps.toList
  | d => tx d
/-- the items that wait, the last first -/
def rxs (st : List PyData) : List Nat := st.reverse.flatMap rx
theorem rxs_snoc (st : List PyData) (e : PyData) : rxs (st ++ [e]) = rx e ++ rxs st := by
  simp [rxs]
mutual
/-- the steps that an item takes -/
def wt : PyData → Nat
  | .tuple ds => wtA ds + 2
  | _ => 1
def wtA : List PyData → Nat
  | [] => 0
  | d :: ds => wt d + 1 + wtA ds
end
theorem wtA_app : ∀ l m : List PyData, wtA (l ++ m) = wtA l + wtA m
  | [], m => by simp [wtA]
  | d :: l, m => by
    rw [List.cons_append, wtA, wtA, wtA_app l m]
    omega
def wts (st : List PyData) : Nat := (st.map wt).sum
theorem wts_snoc (st : List PyData) (e : PyData) : wts (st ++ [e]) = wts st + wt e := by
  simp [wts]
theorem wt_pos (d : PyData) : 0 < wt d := by
  cases d <;> simp [wt]
/-- commas between, from the end -/
def commas : List PyData → List PyData
  | [] => []
  | d :: ds => commas ds ++ [d, .str ","]
theorem rxs_app (a b : List PyData) : rxs (a ++ b) = rxs b ++ rxs a := by
  simp [rxs]
theorem rxs_commas : ∀ (st ds : List PyData), formedAll ds = true → rxs (st ++ commas ds) = txM ds ++ rxs st
  | st, [], _ => by simp [commas, txM]
  | st, d :: ds, h => by
    rw [formedAll, Bool.and_eq_true] at h
    have ih := rxs_commas st ds h.2
    have e1 : st ++ commas (d :: ds) = (st ++ commas ds) ++ [d] ++ [.str ","] := by simp [commas]
    have e2 : rx d = tx d := by
      cases d with
      | str x => cases h.1
      | _ => rfl
    rw [e1, rxs_snoc, rxs_snoc, ih, txM, e2]
    show [44] ++ _ = _
    simp
theorem wts_commas : ∀ (ds : List PyData), wts (commas ds) = wtA ds
  | [] => rfl
  | d :: ds => by
    have ih := wts_commas ds
    have e : commas (d :: ds) = commas ds ++ [d] ++ [.str ","] := by simp [commas]
    rw [e, wts_snoc, wts_snoc, ih, wtA]
    simp only [wt]
    omega
end K14
/-! written. -/
namespace K14
open PySem PySem.Spec PyProof.Rows L2 Kx
theorem wts_len : ∀ st : List PyData, st.length ≤ wts st
  | [] => Nat.le_refl _
  | e :: st => by
    have := wts_len st
    have := wt_pos e
    simp only [wts, List.map_cons, List.sum_cons, List.length_cons] at *
    omega
theorem commas_len : ∀ ds : List PyData, (commas ds).length = 2 * ds.length
  | [] => rfl
  | d :: ds => by
    have := commas_len ds
    simp only [commas, List.length_append, List.length_cons, List.length_nil]
    omega
theorem wts_app (a b : List PyData) : wts (a ++ b) = wts a + wts b := by simp [wts]
theorem commas_ok : ∀ {ds : List PyData}, formedAll ds = true → ∀ e, e ∈ commas ds → formedD e = true ∨ ∃ y, e = .str y
  | [], _, e, h => nomatch h
  | d :: ds, hf, e, h => by
    rw [formedAll, Bool.and_eq_true] at hf
    rcases List.mem_append.mp h with h | h
    · exact commas_ok hf.2 e h
    · rcases List.mem_cons.mp h with rfl | h
      · exact .inl hf.1
      · rw [List.mem_singleton.mp h]
        exact .inr ⟨_, rfl⟩
theorem drop_at {α : Type} {l : List α} {j : Nat} {y : α} (h : l[j]? = some y) : l.drop j = y :: l.drop (j + 1) := by
  have lt := (List.getElem?_eq_some_iff.mp h).1
  rw [List.getElem?_eq_getElem lt] at h
  rw [List.drop_eq_getElem_cons lt, Option.some.inj h]
theorem rev_at {α : Type} {l : List α} {i : Nat} {y : α} (h : l.reverse[i]? = some y) : i < l.length ∧ l[l.length - 1 - i]? = some y := by
  have lt := (List.getElem?_eq_some_iff.mp h).1
  rw [List.length_reverse] at lt
  rw [List.getElem?_reverse lt] at h
  exact ⟨lt, h⟩
def okI (e : PyData) : Prop := formedD e = true ∨ ∃ y, e = .str y
section
variable {P : Program} {w : World} {K : PySem.W.Frag} {mg : Str → Option Value} {base : Heap}
def spWr (K : PySem.W.Frag) : Sp := fun vs H Q _ => ∃ (x : V) (d : PyData), vs = [x] ∧ Dx K H x d ∧ formedD d = true ∧ wt d ≤ 100000 ∧ (tx d).length ≤ 1000000 ∧ ∀ H', Same H H' → Q (.str (tS (tx d))) H'
theorem ok_wr (T : Tx K mg) : FnOk P w K mg base CX0 1 T.awritten T.dwritten ["term"] (spWr K) := by
  have nd := sc_written.nd
  refine T.fwritten.ok sc_written (fun vs H Q E h => ?_) (fun cdv A outer s H vs Q E hr h => ?_)
  · obtain ⟨x, d, rfl, _⟩ := h
    rfl
  · obtain ⟨x, d, rfl, hx, hf, hw, hl, q⟩ := h
    refine ⟨_, (pss_cons (ps_set (i := 1) nd rfl (.inl rfl) (pe_lst pa_nil))
      (pss_cons (ps_set (i := 2) nd rfl (.inl rfl) (pe_lst (pa_cons (pv 0) pa_nil)))
      (pss_cons (ps_while PassesOwn.never (pt_truth (pv 2) (by intro _; rfl)) (pss_cons (ps_set (i := 3) nd rfl (.inl rfl) (pe_bm0 PySem.F.plainAttrs_list PySem.F.slot_list_pop PySem.F.type_list_pop mt_pop (pv 2)))
      (pss_one (ps_if (pt_val (pe_callB call_isi (by rfl) T.b_isinstance (by decide +kernel) (pa_cons (pv 3) (pa_cons (pe_bltn (v := .ty "str") (by rfl) T.b_str (by decide +kernel) rfl) pa_nil)))) (pss_one (ps_expr (pe_bm PySem.F.plainAttrs_list PySem.F.slot_list_append PySem.F.type_list_append mt_append (pv 1) (pa_cons (pv 3) pa_nil)))) (pss_one (ps_if (pt_cmpR op_eq (pe_callB call_len_seq (by rfl) T.b_len (by decide +kernel) (pa_cons (pv 3) pa_nil)) pe_int (nomark _)) (pss_one (ps_expr (pe_bm PySem.F.plainAttrs_list PySem.F.slot_list_append PySem.F.type_list_append mt_append (pv 1) (pa_cons (pe_ix ix_tup (pv 3) pe_int (fun _ _ => rfl)) pa_nil)))) (pss_cons (ps_expr (pe_bm PySem.F.plainAttrs_list PySem.F.slot_list_append PySem.F.type_list_append mt_append (pv 1) (pa_cons (pe_op op_add_str (pe_ix ix_tup (pv 3) pe_int (fun _ _ => rfl)) pe_str) pa_nil)))
      (pss_cons (ps_expr (pe_bm PySem.F.plainAttrs_list PySem.F.slot_list_append PySem.F.type_list_append mt_append (pv 2) (pa_cons pe_str pa_nil)))
      (pss_cons (ps_for PassesOwn.never rfl (pi_tup (pe_back (pv 3))) (pg_name (i := 4) nd rfl (.inl rfl)) (pss_cons (ps_expr (pe_bm PySem.F.plainAttrs_list PySem.F.slot_list_append PySem.F.type_list_append mt_append (pv 2) (pa_cons (pv 4) pa_nil)))
      (pss_one (ps_expr (pe_bm PySem.F.plainAttrs_list PySem.F.slot_list_append PySem.F.type_list_append mt_append (pv 2) (pa_cons pe_str pa_nil))))))
      (pss_one (ps_expr (pe_bm PySem.F.plainAttrs_list PySem.F.slot_list_append PySem.F.type_list_append mt_append (pv 2) (pa_cons (pe_ix ix_tup (pv 3) pe_int (fun _ _ => rfl)) pa_nil)))))))))))))
      (pss_one (ps_ret (pe_bm PySem.F.plainAttrs_str PySem.F.slot_str_join PySem.F.type_str_join mt_join pe_str (pa_cons (pv 1) pa_nil))))))), ?_⟩
    refine ⟨Nat.zero_le _, fun wl nwl => ?_⟩
    have s1 := same_put (o := .lst []) nwl
    refine ⟨_, rfl, (by show 1 ≤ sizeLine; decide), fun pl npl => ?_⟩
    have npl0 : H pl = none := by
      cases e : H pl with
      | none => rfl
      | some o =>
        rw [s1 _ _ e] at npl
        cases npl
    have nwp : wl ≠ pl := ne_of_none upd_same npl
    have big : ∀ {n : Nat}, n ≤ 200000 → n < sizeLine := fun h => Nat.lt_of_le_of_lt h (by decide)
    refine ⟨fun m σ H2 => (∃ y3 y4, σ = [some x, some (.ref wl), some (.ref pl), y3, y4]) ∧ ∃ (us : List V) (st : List PyData) (ws : List Str), m = wts st ∧ H2 pl = some (.lst us) ∧ H2 wl = some (.lst (ws.map V.str)) ∧ Same H H2 ∧ DxAll K H us st ∧ (∀ e, e ∈ st → okI e) ∧ ws.length + wts st ≤ wt d ∧ catS ws ++ rxs st = tx d,
      ⟨wts [d], ⟨none, none, rfl⟩, [x], [d], [], rfl, upd_same, ?_, s1.trans (same_put npl), .cons hx .nil, fun e he => ?_, ?_, ?_⟩, ?_⟩
    · rw [upd_ne nwp, upd_same]
      rfl
    · rw [List.mem_singleton.mp he]
      exact .inl hf
    · show 0 + wts [d] ≤ wt d
      simp [wts]
    · cases d with
      | str y => cases hf
      | _ => simp [catS, rxs, rx]
    rintro m σ H2 ⟨⟨y3, y4, rfl⟩, us, st, ws, rfl, ep, ew, sm, dx, ok, bd, tot⟩
    refine ⟨_, rfl, _, .inl ⟨us, .inl (.inl ep), rfl⟩, ?_⟩
    rcases snoc_or st with rfl | ⟨st, e, rfl⟩
    · cases dx
      refine iteF ⟨rfl, _, rfl, "", wl, ws, rfl, rfl, .inl (.inl (.inl ew)), ?_, ?_⟩
      · have e1 : (ws.map (·.length)).sum = (catS ws).length := by
          clear ew bd tot
          induction ws with
          | nil => rfl
          | cons a ws ih =>
            rw [List.map_cons, List.sum_cons, ih]
            show _ = (a.cps.toList ++ catS ws).length
            rw [List.length_append, Array.length_toList]
            rfl
        have e2 : catS ws = tx d := by
          rw [← tot]
          simp [rxs]
        rw [e1, e2]
        show _ + ws.length * 0 ≤ _
        omega
      · rw [join_none]
        have e2 : catS ws = tx d := by
          rw [← tot]
          simp [rxs]
        rw [e2]
        exact q H2 sm
    obtain ⟨us, v, rfl, dx', hv⟩ := snocDx dx
    have ne : (!(us ++ [v]).isEmpty) = true := by cases us <;> rfl
    rw [ne]
    rw [wts_snoc] at bd
    rw [rxs_snoc] at tot
    have oke := ok e (by simp)
    have ok' : ∀ e, e ∈ st → okI e := fun a ha => ok a (by simp [ha])
    have wpos := wt_pos e
    have lus := dx'.length
    have lst' : st.length ≤ wts st := wts_len st
    refine iteT ⟨fun σ' H' => ∃ m', m' < wts (st ++ [e]) ∧ _, fun _ _ h => h, ?_⟩
    refine ⟨_, rfl, .inl ⟨rfl, _, .inl (.inl ep)⟩, pl, _, v, rfl, rfl, ep, by simp, ?_⟩
    rw [List.dropLast_concat]
    have sm3 : Same H (upd H2 pl (.lst us)) := fun c o hc => by
      rw [upd_ne (ne_of_none hc npl0)]
      exact sm c o hc
    have ew3 : (upd H2 pl (.lst us)) wl = some (.lst (ws.map V.str)) := by
      rw [upd_ne nwp]
      exact ew
    have ep3 : (upd H2 pl (.lst us)) pl = some (.lst us) := upd_same
    generalize upd H2 pl (.lst us) = H3 at sm3 ew3 ep3 ⊢
    refine ⟨_, rfl, v, .ty "str", _, _, _, rfl, .ty _, (hv.up sm3).ty, kit_ty (kit_str e), _, rfl, ?_⟩
    have lws : ws.length ≤ 100000 := by omega
    have lst3 : us.length ≤ 100000 := by omega
    rcases oke with fe | ⟨y, rfl⟩
    · -- a term
      obtain ⟨nm, es, rfl, l3, hnm, hfa⟩ := formed_shape fe
      cases hv with
      | @tup b xs _ hb hs =>
      cases hs with
      | @cons v0 vs0 _ _ h0 hws =>
      cases h0
      have lw := hws.length
      have hb3 := sm3 _ _ hb
      have hn8 : nm.length ≤ 8 := by
        simp only [isNm, Bool.and_eq_true, decide_eq_true_eq] at hnm
        exact hnm.1.2
      refine iteF ⟨_, rfl, b, _, rfl, .inr (SqT.of hb3), rfl, _, rfl, ite2 (fun e1 => ?_) (fun e1 => ?_)⟩
      · -- of a name alone
        have n0 : es = [] := by
          have z := V.int.inj (of_decide_eq_true e1)
          refine List.eq_nil_of_length_eq_zero ?_
          rw [List.length_cons] at z
          omega
        subst n0
        refine ⟨_, rfl, .inl ⟨rfl, _, .inl (.inl ew3)⟩, _, rfl, b, _, 0, .str nm, rfl, rfl, SqT.of hb3, atI_nat (j := 0) rfl, wl, _, .str nm, rfl, rfl, ew3, big (by rw [List.length_map]; omega), ?_⟩
        refine ⟨wts st, by rw [wts_snoc]; omega, ⟨_, _, rfl⟩, us, st, ws ++ [nm], rfl, by rw [upd_ne nwp.symm]; exact ep3, by rw [upd_same, List.map_append]; rfl, fun c o hc => ?_, dx', ok', by rw [List.length_append]; simp only [List.length_singleton]; omega, ?_⟩
        · rw [upd_ne (ne_of_none hc nwl)]
          exact sm3 c o hc
        · rw [catS_snoc, ← tot]
          simp [rx, tx, nmC, txA]
      · -- with others
        cases hws with
        | nil => exact absurd rfl e1
        | @cons v1 vr e1d rest hv1 hrest =>
        have lr := hrest.length
        have hfa2 : formedD e1d = true ∧ formedAll rest = true := by simpa [formedAll] using hfa
        have lrest : rest.length ≤ 2 := by
          rw [List.length_cons] at l3
          omega
        have wte : wt (.tuple (.str nm :: e1d :: rest)) = wt e1d + 1 + wtA rest + 4 := by
          simp only [wt, wtA]
          omega
        rw [wte] at bd
        have wp1 := wt_pos e1d
        refine ⟨_, rfl, .inl ⟨rfl, _, .inl (.inl ew3)⟩, _, rfl, b, _, 0, .str nm, rfl, rfl, SqT.of hb3, atI_nat (j := 0) rfl, nm, "(", rfl, rfl, Nat.le_of_lt (small1000 (by show nm.length + 1 ≤ 1000; omega)), wl, _, _, rfl, rfl, ew3, big (by rw [List.length_map]; omega), ?_⟩
        have sm4 : Same H (upd H3 wl (.lst (ws.map V.str ++ [.str (nm ++ "(")]))) := fun c o hc => by
          rw [upd_ne (ne_of_none hc nwl)]
          exact sm3 c o hc
        have ep4 : (upd H3 wl (.lst (ws.map V.str ++ [.str (nm ++ "(")]))) pl = some (.lst us) := by
          rw [upd_ne nwp.symm]
          exact ep3
        have ew4 : (upd H3 wl (.lst (ws.map V.str ++ [.str (nm ++ "(")]))) wl = some (.lst ((ws ++ [nm ++ "("]).map V.str)) := by
          rw [upd_same, List.map_append]
          rfl
        generalize upd H3 wl (.lst (ws.map V.str ++ [.str (nm ++ "(")])) = H4 at sm4 ep4 ew4 ⊢
        refine ⟨_, rfl, .inl ⟨rfl, _, .inl (.inl ep4)⟩, pl, us, .str ")", rfl, rfl, ep4, big (by omega), ?_⟩
        have put : ∀ {G : Hp} {xs : List V}, Same H G → G wl = some (.lst ((ws ++ [nm ++ "("]).map V.str)) → Same H (upd G pl (.lst xs)) ∧ (upd G pl (.lst xs)) wl = some (.lst ((ws ++ [nm ++ "("]).map V.str)) := fun sG eG => ⟨fun c o hc => by
            rw [upd_ne (ne_of_none hc npl0)]
            exact sG c o hc, by
            rw [upd_ne nwp]
            exact eG⟩
        obtain ⟨sm5, ew5⟩ := put (xs := us ++ [.str ")"]) sm4 ew4
        have ep5 : (upd H4 pl (.lst (us ++ [.str ")"]))) pl = some (.lst (us ++ [.str ")"])) := upd_same
        generalize upd H4 pl (.lst (us ++ [.str ")"])) = H5 at sm5 ep5 ew5 ⊢
        have hb5 := sm5 _ _ hb
        have lvr : (V.str nm :: v1 :: vr).length ≤ 4 := by
          rw [List.length_cons, List.length_cons]
          omega
        refine ⟨_, rfl, b, _, rfl, SqT.of hb5, by rw [List.length_cons, List.length_cons]; omega, lvr, fun u nu => ⟨u, rfl, ⟨_, SqT.of upd_same⟩, ?_⟩⟩
        have su := same_put (o := .tup ((V.str nm :: v1 :: vr).drop 2).reverse) nu
        have npu : pl ≠ u := ne_of_none ep5 nu
        refine for_tup (K := K) (a := u) (xs := ((V.str nm :: v1 :: vr).drop 2).reverse) (fun i σ H6 => (∃ y5, σ = [some x, some (.ref wl), some (.ref pl), some (.ref b), y5]) ∧ Same H H6 ∧ H6 wl = some (.lst ((ws ++ [nm ++ "("]).map V.str)) ∧ H6 u = some (.tup ((V.str nm :: v1 :: vr).drop 2).reverse) ∧ ∃ (ys : List V), H6 pl = some (.lst (us ++ [.str ")"] ++ ys)) ∧ DxAll K H ys (commas (rest.drop (rest.length - i))))
          ⟨⟨_, rfl⟩, sm5.trans su, su _ _ ew5, upd_same, [], by rw [List.append_nil]; exact su _ _ ep5, by simp [commas]; exact .nil⟩ (fun i σ H6 _ h => SqT.of h.2.2.2.1) ?_ ?_
        · rintro i y σ H6 hi ⟨⟨y5, rfl⟩, s6, ew6, eu6, ys, ep6, dys⟩
          obtain ⟨lti, hi⟩ := rev_at hi
          have lvv : ((V.str nm :: v1 :: vr).drop 2).length = rest.length := lr
          rw [lvv] at lti hi
          have hi : vr[rest.length - 1 - i]? = some y := hi
          have lt : rest.length - 1 - i < rest.length := by omega
          have gd := List.getElem?_eq_getElem lt
          obtain ⟨v2, hv2, dv2⟩ := hrest.get gd
          rw [hi] at hv2
          cases hv2
          have ed : rest.drop (rest.length - (i + 1)) = rest[rest.length - 1 - i] :: rest.drop (rest.length - i) := by
            rw [show rest.length - (i + 1) = rest.length - 1 - i by omega, drop_at gd, show rest.length - 1 - i + 1 = rest.length - i by omega]
          have lys := dys.length
          rw [commas_len, List.length_drop] at lys
          have lbig : (us ++ [V.str ")"] ++ ys).length ≤ 100010 := by
            rw [List.length_append, List.length_append, List.length_singleton]
            omega
          refine ⟨_, rfl, .inl ⟨rfl, _, .inl (.inl ep6)⟩, _, rfl, pl, _, y, rfl, rfl, ep6, big (by omega), ?_⟩
          obtain ⟨s7, ew7⟩ := put (xs := us ++ [.str ")"] ++ ys ++ [y]) s6 ew6
          have eu7 : (upd H6 pl (.lst (us ++ [.str ")"] ++ ys ++ [y]))) u = some (.tup ((V.str nm :: v1 :: vr).drop 2).reverse) := by
            rw [upd_ne npu.symm]
            exact eu6
          refine ⟨_, rfl, .inl ⟨rfl, _, .inl (.inl upd_same)⟩, pl, _, .str ",", rfl, rfl, upd_same, big (by rw [List.length_append, List.length_singleton]; omega), ?_⟩
          obtain ⟨s8, ew8⟩ := put (xs := us ++ [.str ")"] ++ ys ++ [y] ++ [.str ","]) s7 ew7
          refine ⟨⟨_, rfl⟩, s8, ew8, ?_, ys ++ [y, .str ","], ?_, ?_⟩
          · rw [upd_ne npu.symm]
            exact eu7
          · rw [upd_same]
            simp
          · rw [ed, commas]
            exact DxAll.append dys (.cons dv2 (.cons (.str _) .nil))
        · rintro σ H6 ⟨⟨y5, rfl⟩, s6, ew6, eu6, ys, ep6, dys⟩
          have lvv : ((V.str nm :: v1 :: vr).drop 2).reverse.length = rest.length := by
            rw [List.length_reverse]
            exact lr
          rw [lvv, Nat.sub_self, List.drop_zero] at dys
          have lys := dys.length
          rw [commas_len] at lys
          have hb6 := s6 _ _ hb
          have lbig : (us ++ [V.str ")"] ++ ys).length ≤ 100010 := by
            rw [List.length_append, List.length_append, List.length_singleton]
            omega
          refine ⟨_, rfl, .inl ⟨rfl, _, .inl (.inl ep6)⟩, _, rfl, b, _, 1, v1, rfl, rfl, SqT.of hb6, atI_nat (j := 1) rfl, pl, _, v1, rfl, rfl, ep6, big (by omega), ?_⟩
          obtain ⟨s7, ew7⟩ := put (xs := us ++ [.str ")"] ++ ys ++ [v1]) s6 ew6
          have wc := wts_commas rest
          refine ⟨wts (st ++ [.str ")"] ++ commas rest ++ [e1d]), ?_, ⟨_, _, rfl⟩, us ++ [.str ")"] ++ ys ++ [v1], st ++ [.str ")"] ++ commas rest ++ [e1d], ws ++ [nm ++ "("], rfl, upd_same, ew7, s7, ?_, fun e he => ?_, ?_, ?_⟩
          · rw [wts_snoc, wts_snoc, wts_app, wts_snoc, wc, wte]
            show wts st + 1 + wtA rest + wt e1d < _
            omega
          · exact DxAll.append (DxAll.append (DxAll.append dx' (.cons (.str _) .nil)) dys) (.cons hv1 .nil)
          · rcases List.mem_append.mp he with he | he
            · rcases List.mem_append.mp he with he | he
              · rcases List.mem_append.mp he with he | he
                · exact ok' e he
                · rw [List.mem_singleton.mp he]
                  exact .inr ⟨_, rfl⟩
              · exact commas_ok hfa2.2 e he
            · rw [List.mem_singleton.mp he]
              exact .inl hfa2.1
          · rw [wts_snoc, wts_app, wts_snoc, wc, List.length_append, List.length_singleton]
            show _ + 1 + (wts st + 1 + wtA rest + wt e1d) ≤ _
            omega
          · have e2 : rx e1d = tx e1d := by
              cases e1d with
              | str y => cases hfa2.1
              | _ => rfl
            rw [rxs_snoc, rxs_commas _ _ hfa2.2, rxs_snoc, catS_snoc, ← tot, str_app, e2]
            show catS ws ++ (nm.cps.toList ++ [40]) ++ (tx e1d ++ (txM rest ++ ([41] ++ rxs st))) = catS ws ++ ((nm.cps.toList ++ 40 :: (tx e1d ++ (txM rest ++ [41]))) ++ rxs st)
            simp
    · -- a sign
      refine iteT ?_
      cases hv
      refine ⟨_, rfl, .inl ⟨rfl, _, .inl (.inl ew3)⟩, _, rfl, wl, _, .str y, rfl, rfl, ew3, big (by rw [List.length_map]; omega), ?_⟩
      refine ⟨wts st, by rw [wts_snoc]; omega, ⟨_, _, rfl⟩, us, st, ws ++ [y], rfl, by rw [upd_ne nwp.symm]; exact ep3, by rw [upd_same, List.map_append]; rfl, fun c o hc => ?_, dx', ok', by rw [List.length_append]; simp only [List.length_singleton]; omega, ?_⟩
      · rw [upd_ne (ne_of_none hc nwl)]
        exact sm3 c o hc
      · rw [catS_snoc, ← tot]
        simp [rx]
end
end K14
/-! Terms from left to right: all parts, and what is made of them from the right. -/
namespace K14
open PySem PySem.Spec PyProof.Rows L2 Kx
mutual
/-- all parts of a datum, itself first -/
def preD : PyData → List PyData
  | .tuple (x :: ds) => .tuple (x :: ds) :: preAll ds
  | d => [d]
def preAll : List PyData → List PyData
  | [] => []
  | d :: ds => preD d ++ preAll ds
end
theorem preAll_app : ∀ (l m : List PyData), preAll (l ++ m) = preAll l ++ preAll m
  | [], m => by simp [preAll]
  | d :: l, m => by simp [preAll, preAll_app l m]
def kidsD : PyData → List PyData
  | .tuple (_ :: ds) => ds
  | _ => []
theorem preD_eq {d : PyData} (h : formedD d = true) : preD d = d :: preAll (kidsD d) := by
  obtain ⟨x, ds, rfl, _⟩ := formed_shape h
  simp [preD, kidsD]
/-- one turn of a stack of data, the next one first -/
def turn : List PyData → List PyData
  | [] => []
  | d :: st => kidsD d ++ st
def stk (st : List PyData) : Nat → List PyData
  | 0 => st
  | k + 1 => turn (stk st k)
theorem kids_formed {d : PyData} (h : formedD d = true) : formedAll (kidsD d) = true := by
  obtain ⟨x, ds, rfl, _, _, h⟩ := formed_shape h
  exact h
theorem turn_formed {st : List PyData} (h : formedAll st = true) : formedAll (turn st) = true := by
  cases st with
  | nil => rfl
  | cons d st =>
    rw [formedAll, Bool.and_eq_true] at h
    rw [turn, formedAll_append, kids_formed h.1, h.2]
    rfl
theorem stk_formed {st : List PyData} (h : formedAll st = true) : ∀ k, formedAll (stk st k) = true
  | 0 => h
  | k + 1 => turn_formed (stk_formed h k)
theorem stk_drop {st : List PyData} (h : formedAll st = true) : ∀ k, preAll (stk st k) = (preAll st).drop k
  | 0 => by simp [stk]
  | k + 1 => by
    have e := stk_drop h k
    have f := stk_formed h k
    have e2 : (preAll st).drop (k + 1) = ((preAll st).drop k).tail := by rw [List.tail_drop]
    rw [stk, e2, ← e]
    cases es : stk st k with
    | nil => simp [turn, preAll]
    | cons d r =>
      rw [es, formedAll, Bool.and_eq_true] at f
      rw [turn, preAll, preD_eq f.1, preAll_app]
      rfl
/-- the stack at place k: what stands there comes first -/
theorem stk_at {st : List PyData} (h : formedAll st = true) {k : Nat} {d : PyData} (e : (preAll st)[k]? = some d) : ∃ r, stk st k = d :: r ∧ formedD d = true ∧ formedAll r = true ∧ stk st (k + 1) = kidsD d ++ r := by
  have e1 := stk_drop h k
  have f := stk_formed h k
  have e3 : ((preAll st).drop k)[0]? = some d := by rw [List.getElem?_drop]; exact e
  cases es : stk st k with
  | nil =>
    rw [es, preAll] at e1
    rw [← e1] at e3
    cases e3
  | cons c r =>
    rw [es, formedAll, Bool.and_eq_true] at f
    rw [es, preAll, preD_eq f.1] at e1
    rw [← e1] at e3
    simp at e3
    subst e3
    exact ⟨r, rfl, f.1, f.2, by rw [stk, es, turn]⟩
theorem pre_nil {st : List PyData} (h : formedAll st = true) (e : preAll st = []) : st = [] := by
  cases st with
  | nil => rfl
  | cons d r =>
    rw [formedAll, Bool.and_eq_true] at h
    rw [preAll, preD_eq h.1] at e
    cases e
theorem stk_end {st : List PyData} (h : formedAll st = true) {k : Nat} (e : (preAll st).length ≤ k) : stk st k = [] := by
  refine pre_nil (stk_formed h k) ?_
  rw [stk_drop h k]
  exact List.drop_eq_nil_of_le e
theorem stk_first {d : PyData} {st : List PyData} (hd : formedD d = true) (h : formedAll st = true) : stk (d :: st) (preD d).length = st := by
  have key : ∀ (n : Nat) (l : List PyData), (preAll l).length = n → formedAll l = true → ∀ st, stk (l ++ st) n = st := by
    intro n
    induction n with
    | zero =>
      intro l e f st
      have := pre_nil f (List.length_eq_zero_iff.mp e)
      rw [this]
      rfl
    | succ n ih =>
      intro l e f st
      cases l with
      | nil => cases e
      | cons c l =>
        rw [formedAll, Bool.and_eq_true] at f
        rw [preAll, preD_eq f.1] at e
        have e2 : (preAll (kidsD c ++ l)).length = n := by
          rw [preAll_app]
          simpa using e
        have sh : ∀ (m : Nat) (s : List PyData), stk s (m + 1) = stk (turn s) m := by
          intro m
          induction m with
          | zero => intro s; rfl
          | succ m ihm => intro s; rw [stk, ihm s, stk]
        rw [sh, List.cons_append, turn, ← List.append_assoc]
        exact ih (kidsD c ++ l) e2 (by rw [formedAll_append, kids_formed f.1, f.2]; rfl) st
  have := key (preAll [d]).length [d] rfl (by rw [formedAll, hd]; rfl) st
  rw [preAll, preAll, List.append_nil] at this
  exact this
theorem pre_rows : ∀ (d : PyData), formedD d = true → (preD d).length = (rowsD d).length
  | .tuple (x :: ds), h => by
    rw [formedD, Bool.and_eq_true] at h
    rw [preD, rowsD, List.length_cons, List.length_cons, pre_rowsAll ds h.2]
  | .tuple [], h => by cases h
  | .none, h => by cases h
  | .bool _, h => by cases h
  | .int _, h => by cases h
  | .str _, h => by cases h
  | .list _, h => by cases h
  | .dict _, h => by cases h
where pre_rowsAll : ∀ (ds : List PyData), formedAll ds = true → (preAll ds).length = (rowsAll ds).length
  | [], _ => rfl
  | d :: ds, h => by
    rw [formedAll, Bool.and_eq_true] at h
    rw [preAll, rowsAll, List.length_append, List.length_append, pre_rows d h.1, pre_rowsAll ds h.2]
end K14
/-! t[:0:-1] of a tuple of one to four. -/
namespace Kx
open PySem PySem.Spec PyProof.Rows L2 HT
section
variable {prog : Program} {w : World} {A : Around} {E : Value → Shared → Prop} {s : Shared}
theorem back0_adjust {n : Nat} (h : 1 ≤ n) : Builtin.Slice.sliceAdjust none (some 0) (-1) (n : Int) = ((n : Int) - 1, 0) := by
  have neg : (-1 : Int) < 0 := by decide
  unfold Builtin.Slice.sliceAdjust
  simp only [neg, if_true]
  refine Prod.ext ?_ ?_
  · rfl
  · have no : ¬ ((0 : Int) < 0) := by decide
    simp only [no, if_false]
    omega
theorem back0_places {n : Nat} (h : 1 ≤ n) : Builtin.Slice.slicePlaces ((n : Int) - 1) 0 (-1) = n - 1 := by
  unfold Builtin.Slice.slicePlaces
  have no : ¬ ((-1 : Int) > 0) := by decide
  simp only [no, if_false]
  rw [show -(-1 : Int) = 1 from rfl, Int.ediv_one]
  split <;> omega
theorem back0_pick : ∀ {xs : List Value}, 1 ≤ xs.length → xs.length ≤ 4 → ((List.range (xs.length - 1)).filterMap fun (m : Nat) => xs.toArray[((xs.length : Int) - 1 + (m : Int) * -1).toNat]?) = (xs.drop 1).reverse
  | [a], _, _ => rfl
  | [a, b], _, _ => rfl
  | [a, b, c], _, _ => rfl
  | [a, b, c, d], _, _ => rfl
  | [], h, _ => by simp at h
  | _ :: _ :: _ :: _ :: _ :: _, _, h => by simp at h
theorem back0_applied {sl : Addr} {vl vu vs : Value} {n : Nat} {Q : Int × Int × Nat → Shared → Prop} (hn : 1 ≤ n) (hs : s.heap.IsSliceOf sl vl vu vs) (pl : IsPart vl none) (pu : IsPart vu (some 0)) (ps : IsPart vs (some (-1)))
    (h : Q ((n : Int) - 1, -1, n - 1) s) : wpAny (model prog w) A (Builtin.Slice.sliceApplied (.ref sl) (pure (n : Int))) Q E s := by
  obtain ⟨ob, h1, h2, h3⟩ := id hs
  unfold Builtin.Slice.sliceApplied Builtin.Slice.sliceFields
  refine wpAny_bind (wpAny_bind (wpAny_field h1 h3 (x := vl) rfl (wpAny_bind (wpAny_field h1 h3 (x := vu) rfl (wpAny_bind (wpAny_field h1 h3 (x := vs) rfl (wpAny_pure ?_)))))))
  refine wpAny_bind (slicePart_ ps ?_)
  show wpAny _ _ (if ((-1 : Int) == 0) = true then _ else _) _ _ s
  rw [if_neg (by decide)]
  refine wpAny_bind (slicePart_ pl (wpAny_bind (slicePart_ pu (wpAny_bind (wpAny_pure ?_)))))
  show wpAny _ _ (match Builtin.Slice.sliceAdjust none (some 0) (-1) (n : Int) with | (lo, hi) => pure (lo, (-1 : Int), Builtin.Slice.slicePlaces lo hi (-1))) _ _ s
  rw [back0_adjust hn]
  show wpAny _ _ (pure ((n : Int) - 1, (-1 : Int), Builtin.Slice.slicePlaces ((n : Int) - 1) 0 (-1))) _ _ s
  rw [back0_places hn]
  exact wpAny_pure h
theorem getItem_back0 {t sl : Addr} {xs : List Value} {vl vu vs : Value} {Q : Value → Shared → Prop} (ht : IsTup s.heap t xs.toArray) (h2 : 1 ≤ xs.length) (h4 : xs.length ≤ 4) (hs : s.heap.IsSliceOf sl vl vu vs) (pl : IsPart vl none) (pu : IsPart vu (some 0)) (ps : IsPart vs (some (-1)))
    (h : Q (.ref s.heap.objs.size) { s with heap := s.heap.push { cls := .type "tuple", data := .seq (xs.drop 1).reverse.toArray } }) : wpAny (model prog w) A (getItem (.ref t) (.ref sl)) Q E s := by
  have few : sizeOk (.seq (xs.drop 1).reverse.toArray) := by
    show (xs.drop 1).reverse.toArray.size ≤ sizeLine
    rw [List.size_toArray, List.length_reverse, List.length_drop]
    exact Nat.le_trans (show xs.length - 1 ≤ 4 by omega) (by decide)
  obtain ⟨ob, ho, hc, hd⟩ := id hs
  have isS : s.TypeIs (.ref sl) "slice" := ⟨ob, ho, hc⟩
  unfold getItem
  try with_reducible refine wpAny_holding ?_
  first | refine wpAny_bind (wpAny_pure ?_) | skip
  refine wpAny_bind (wpAny_sequenceKey ht.typeIs (by decide) ?_)
  refine wpAny_bind (wpAny_callSpecial?_slot (name := Str.ofString "__getitem__") ht.typeIs PyProof.Rows.slot_tuple_getitem
    (wpAny_call_entry PyProof.Rows.slot_tuple_getitem ht.typeIs entry_tuple_getitem ?_ (args_tuple_getitem _ _)))
  show wpAny _ _ (Builtin.Tuple.tupleItemsOf (.ref t) >>= _) _ _ s
  refine wpAny_bind (tupleItemsOf_ ht ?_)
  refine wpAny_bind (wpAny_typeOf isS ?_)
  rw [if_pos (by decide)]
  have sz : xs.toArray.size = xs.length := List.size_toArray ..
  refine wpAny_bind (back0_applied (n := xs.toArray.size) (by rw [sz]; exact h2) hs pl pu ps ?_)
  rw [sz]
  have no : ¬ ((((xs.length : Int) - 1) == 0 && (-1 : Int) == 1 && (xs.length - 1) == xs.length) = true) := by simp
  show wpAny _ _ (if (((xs.length : Int) - 1) == 0 && (-1 : Int) == 1 && (xs.length - 1) == xs.length) = true then _ else _) _ _ s
  rw [if_neg no, back0_pick h2 h4]
  first
    | exact wpAny_bind (m := Builtin.Tuple.tupleExact _) (wpAny_newObj_type (wpAny_pure ⟨_, rfl, wpAny_pure h⟩) few)
    | exact wpAny_bind (m := Builtin.Tuple.tupleExact _) (wpAny_newObj_type (wpAny_bind (wpAny_pure (wpAny_pure ⟨_, rfl, wpAny_pure h⟩))) few)
    | exact wpAny_bind (wpAny_bind (m := Builtin.Tuple.tupleExact _) (wpAny_newObj_type (wpAny_pure (wpAny_pure ⟨_, rfl, wpAny_pure h⟩)) few))
    | exact wpAny_bind (wpAny_bind (m := Builtin.Tuple.tupleExact _) (wpAny_newObj_type (wpAny_pure ⟨_, rfl, wpAny_pure h⟩) few))
end
/-- t[:0:-1], t of one to four: what stands behind the first, from the end -/
def tBack0 (K : PySem.W.Frag) (te : TE) : TE := fun σ H Q => te σ H fun x H1 => ∃ a xs, x = .ref a ∧ SqT K H1 a xs ∧ 1 ≤ xs.length ∧ xs.length ≤ 4 ∧ ∀ p, H1 p = none → Q (.ref p) (upd H1 p (.tup (xs.drop 1).reverse))
section
variable {X : Cx}
theorem pe_back0 {e : Expr} {te : TE} {k k2 : Nat} {p1 p2 p3 p4 pos : Pos} (he : PE X e te) : PE X (.Subscript e (.Slice none (some (.Constant (.int 0) k2 p4)) (some (.UnaryOp .USub (.Constant (.int 1) k p1) p2)) p3) pos) (tBack0 X.K te) := by
  refine ⟨fun pins s σ H Q I h => ?_⟩
  refine Subscript_ (thn (he.run pins s σ H _ I h) fun v s1 ⟨x, H1, I1, r1, q1⟩ => ?_)
  obtain ⟨a, xs, ex, hx, l2, l4, q⟩ := q1
  subst ex
  cases r1
  have hlo : PO X (some (.Constant (.int 0) k2 p4)) (tPart (tC (.int 0))) := po_some pe_int
  have hst : PO X (some (.UnaryOp .USub (.Constant (.int 1) k p1) p2)) (tPart (tUn (rU fun i => .int (-i)) (tC (.int 1)))) := po_some (pe_un un_neg pe_int)
  refine wpAny_Slice (thn (po_none.run pins s1 σ H1 (fun o G => o = none ∧ G = H1) I1 ⟨rfl, rfl⟩) fun vl s2 ⟨l, H2, I2, pl, el, e2⟩ => ?_)
  subst el e2
  refine thn (hlo.run pins s2 σ H2 (fun o G => o = some 0 ∧ G = H2) I2 ⟨0, rfl, rfl, rfl⟩) fun vu s3 ⟨u, H3, I3, pu, eu, e3⟩ => ?_
  subst eu e3
  refine thn (hst.run pins s3 σ H3 (fun o G => o = some (-1) ∧ G = H3) I3 ⟨1, rfl, -1, rfl, rfl, rfl⟩) fun vs s4 ⟨o, H4, I4, ps, eo, e4⟩ => ?_
  subst eo e4
  have I5 : Inv X pins σ H4 { s4 with heap := s4.heap.push { cls := .type "slice", data := .fields #[vl, vu, vs] } } := I4.kept (t' := s4.toks) fun b ob q => Heap.get?_push_of_some _ q
  obtain ⟨its, r, ht, hz⟩ := I5.tuple hx
  have hlen := r.length
  show wpAny (model X.prog X.w) X.A (subscriptTail e (.Slice none (some (.Constant (.int 0) k2 p4)) (some (.UnaryOp .USub (.Constant (.int 1) k p1) p2)) p3) (.ref a) (.ref s4.heap.objs.size)) (EP X pins σ Q) X.xe { s4 with heap := s4.heap.push { cls := .type "slice", data := .fields #[vl, vu, vs] } }
  refine tail_any (ops := [.ref a, .ref s4.heap.objs.size]) ht.typeIs (PyProof.Rows.slot_tuple_getitem.lookup) ?_ (by with_unfolding_all rfl)
  refine getItem_back0 ht (by omega) (by omega) (Heap.IsSliceOf.new _ vl vu vs) pl pu ps ?_
  refine ⟨.ref _, _, I5.laid (t' := s4.toks) (o := .tup (xs.drop 1).reverse) (fun b ob q => Heap.get?_push_of_some _ q) (Nat.le_refl _) ?_, rfl, q _ (I5.hok.fresh (Nat.le_refl _))⟩
  exact ⟨by rw [List.length_reverse, List.length_drop]; omega, _, (r.drop 1).reverse, IsTup.new _ _⟩
end
end Kx
/-! preorder. -/
namespace K14
open PySem PySem.Spec PyProof.Rows L2 Kx
theorem dxr {K : PySem.W.Frag} {H : Hp} : ∀ {vs : List V} {ds : List PyData}, DxAll K H vs ds → DxAll K H vs.reverse ds.reverse
  | _, _, .nil => .nil
  | _, _, .cons a t => by
    rw [List.reverse_cons, List.reverse_cons]
    exact DxAll.append (dxr t) (.cons a .nil)
theorem pre_pos {d : PyData} : 0 < (preD d).length := by
  cases d with
  | tuple ds => cases ds <;> simp [preD]
  | _ => simp [preD]
theorem len_pre : ∀ l : List PyData, l.length ≤ (preAll l).length
  | [] => Nat.le_refl _
  | d :: l => by
    have := len_pre l
    have := pre_pos (d := d)
    rw [preAll, List.length_append, List.length_cons]
    omega
theorem big5 {n : Nat} (h : n ≤ 200000) : n < sizeLine := Nat.lt_of_le_of_lt h (by decide)
section
variable {P : Program} {w : World} {K : PySem.W.Frag} {mg : Str → Option Value} {base : Heap}
def spPre (K : PySem.W.Frag) : Sp := fun vs H Q _ => ∃ (a : Addr) (ws : List V) (st : List PyData) (H0 : Hp), vs = [.ref a] ∧ SqL K H a ws ∧ Same H0 H ∧ DxAll K H0 ws st ∧ formedAll st = true ∧ (preAll st).length ≤ 100000 ∧
  ∀ p H' us, Same H H' → H p = none → H' p = some (.lst us) → DxAll K H0 us (preAll st) → Q (.ref p) H'
theorem ok_pre (T : Tx K mg) : FnOk P w K mg base CX0 1 T.apreorder T.dpreorder ["terms"] (spPre K) := by
  have nd := sc_preorder.nd
  refine T.fpreorder.ok sc_preorder (fun vs H Q E h => ?_) (fun cdv A outer s H vs Q E hr h => ?_)
  · obtain ⟨a, ws, st, H0, rfl, _⟩ := h
    rfl
  · obtain ⟨a, ws, st0, H0, rfl, ha, s0, hx, hf, bd, q⟩ := h
    refine ⟨_, (pss_cons (ps_set (i := 1) nd rfl (.inl rfl) (pe_lst pa_nil))
      (pss_cons (ps_set (i := 2) nd rfl (.inl rfl) (pe_callTy call_list_of (by rfl) T.b_list (by decide +kernel) (pa_cons (pe_revL (pv 0)) pa_nil)))
      (pss_cons (ps_while PassesOwn.never (pt_truth (pv 2) (by intro _; rfl)) (pss_cons (ps_set (i := 3) nd rfl (.inl rfl) (pe_bm0 PySem.F.plainAttrs_list PySem.F.slot_list_pop PySem.F.type_list_pop mt_pop (pv 2)))
      (pss_cons (ps_expr (pe_bm PySem.F.plainAttrs_list PySem.F.slot_list_append PySem.F.type_list_append mt_append (pv 1) (pa_cons (pv 3) pa_nil)))
      (pss_one (ps_expr (pe_bm PySem.F.plainAttrs_list PySem.F.slot_list_extend PySem.F.type_list_extend mt_extT (pv 2) (pa_cons (pe_back0 (pv 3)) pa_nil)))))))
      (pss_one (ps_ret (pv 1)))))), ?_⟩
    refine ⟨Nat.zero_le _, fun f nf => ?_⟩
    have s1 := same_put (o := .lst []) nf
    refine ⟨_, rfl, a, ws, rfl, s1.seq ha, fun r nr => ⟨r, _, rfl, .inl (.inl (.inl upd_same)), fun wl nwl => ?_⟩⟩
    have s2 := s1.trans (same_put (o := .lst ws.reverse) nr)
    have nfr : f ≠ r := ne_of_none upd_same nr
    have ef2 : (upd (upd H f (.lst [])) r (.lst ws.reverse)) f = some (.lst []) := by rw [upd_ne nfr, upd_same]
    generalize upd (upd H f (.lst [])) r (.lst ws.reverse) = H2 at s2 ef2 nwl ⊢
    have s3 := s2.trans (same_put (o := .lst ws.reverse) nwl)
    have nfw : f ≠ wl := ne_of_none ef2 nwl
    have nwl0 : H wl = none := s2.free nwl
    refine ⟨fun m σ H3 => (∃ y3, σ = [some (.ref a), some (.ref f), some (.ref wl), y3]) ∧ ∃ (us vs : List V) (done st : List PyData), m = (preAll st).length ∧ H3 f = some (.lst us) ∧ H3 wl = some (.lst vs) ∧ Same H H3 ∧ DxAll K H0 us done ∧ DxAll K H0 vs st.reverse ∧ formedAll st = true ∧ done ++ preAll st = preAll st0,
      ⟨_, ⟨none, rfl⟩, [], ws.reverse, [], st0, rfl, by rw [upd_ne nfw]; exact ef2, upd_same, s3, .nil, dxr hx, hf, rfl⟩, ?_⟩
    rintro m σ H3 ⟨⟨y3, rfl⟩, us, vs, done, st, rfl, ef, ew, sm, du, dv, fo, tot⟩
    have lt := congrArg List.length tot
    rw [List.length_append] at lt
    have ld := du.length
    refine ⟨_, rfl, _, .inl ⟨vs, .inl (.inl ew), rfl⟩, ?_⟩
    cases st with
    | nil =>
      cases dv
      refine iteF ⟨_, rfl, q f _ us sm nf ef ?_⟩
      have e : done = preAll st0 := by rw [← tot]; simp [preAll]
      rw [← e]
      exact du
    | cons d st =>
      rw [List.reverse_cons] at dv
      obtain ⟨vs, v, rfl, dv', hv⟩ := snocDx dv
      have ne : (!(vs ++ [v]).isEmpty) = true := by cases vs <;> rfl
      rw [ne]
      rw [formedAll, Bool.and_eq_true] at fo
      have ep := preD_eq fo.1
      have lv := dv'.length
      rw [List.length_reverse] at lv
      have lst := len_pre st
      have lall : (preAll (d :: st)).length = 1 + ((preAll (kidsD d)).length + (preAll st).length) := by
        rw [preAll, ep, List.length_append, List.length_cons]
        omega
      rw [lall] at lt ⊢
      refine iteT ⟨fun σ' H' => ∃ m', m' < 1 + ((preAll (kidsD d)).length + (preAll st).length) ∧ _, fun _ _ h => h, ?_⟩
      refine ⟨_, rfl, .inl ⟨rfl, _, .inl (.inl ew)⟩, wl, _, v, rfl, rfl, ew, by simp, ?_⟩
      rw [List.dropLast_concat]
      have sm4 : Same H (upd H3 wl (.lst vs)) := fun c o hc => by
        rw [upd_ne (ne_of_none hc nwl0)]
        exact sm c o hc
      have ef4 : (upd H3 wl (.lst vs)) f = some (.lst us) := by
        rw [upd_ne nfw]
        exact ef
      have ew4 : (upd H3 wl (.lst vs)) wl = some (.lst vs) := upd_same
      generalize upd H3 wl (.lst vs) = H4 at sm4 ef4 ew4 ⊢
      refine ⟨_, rfl, .inl ⟨rfl, _, .inl (.inl ef4)⟩, _, rfl, f, us, v, rfl, rfl, ef4, big5 (by omega), ?_⟩
      have sm5 : Same H (upd H4 f (.lst (us ++ [v]))) := fun c o hc => by
        rw [upd_ne (ne_of_none hc nf)]
        exact sm4 c o hc
      have ef5 : (upd H4 f (.lst (us ++ [v]))) f = some (.lst (us ++ [v])) := upd_same
      have ew5 : (upd H4 f (.lst (us ++ [v]))) wl = some (.lst vs) := by
        rw [upd_ne nfw.symm]
        exact ew4
      generalize upd H4 f (.lst (us ++ [v])) = H5 at sm5 ef5 ew5 ⊢
      obtain ⟨nm, es, rfl, l3, hnm, hfa⟩ := formed_shape fo.1
      have hv' := hv
      cases hv' with
      | @tup b xs _ hb hs =>
      cases hs with
      | @cons v0 vr _ _ h0 hws =>
      cases h0
      have lw := hws.length
      refine ⟨_, rfl, .inl ⟨rfl, _, .inl (.inl ew5)⟩, _, rfl, b, _, rfl, SqT.of (sm5 _ _ (s0 _ _ hb)), by rw [List.length_cons]; omega, by rw [List.length_cons]; omega, fun c nc => ?_⟩
      have nwc : wl ≠ c := ne_of_none ew5 nc
      have nfc : f ≠ c := ne_of_none ef5 nc
      refine ⟨wl, c, vs, vr.reverse, rfl, rfl, by rw [upd_ne nwc]; exact ew5, SqT.of upd_same, ?_, ?_⟩
      · rw [List.length_reverse]
        exact Nat.le_of_lt (big5 (by omega))
      · refine ⟨(preAll (kidsD (.tuple (.str nm :: es)) ++ st)).length, by rw [preAll_app, List.length_append]; omega, ⟨_, rfl⟩, _, vs ++ vr.reverse, done ++ [.tuple (.str nm :: es)], es ++ st, rfl, ?_, upd_same, fun d o hd => ?_, DxAll.append du (.cons hv .nil), ?_, ?_, ?_⟩
        · rw [upd_ne nfw, upd_ne nfc]
          exact ef5
        · rw [upd_ne (ne_of_none hd nwl0), upd_ne]
          · exact sm5 d o hd
          · rintro rfl
            rw [sm5 _ _ hd] at nc
            cases nc
        · rw [List.reverse_append]
          exact DxAll.append dv' (dxr hws)
        · rw [formedAll_append, hfa, fo.2]
          rfl
        · rw [← tot, preAll_app, preAll, ep, List.append_assoc]
          rfl
end
end K14
/-! d.setdefault(t, z), t a tuple of texts and ints. -/
namespace Kx
open PySem PySem.Spec PyProof.Rows L2
section
variable {X : Cx} {pins : List (Addr × Obj)} {σ : L2.St} {H : Hp} {s : Shared} {a b : Addr} {r : Value} {d : V} {k : List Key} {A : Around} {E : Value → Shared → Prop}
theorem d_setdT {kvs : List (List Key × V)} {Q : Value → Shared → Prop} (hu : A.units + 1 < cLine) (I : Inv X pins σ H s) (e : H a = some (.dT kvs)) (eb : H b = some (.tup (k.map kV))) (rd : RelV d r) (hl : kvs.length < sizeLine)
    (h1 : ∀ v, valV kvs k = some v → ∀ (w' : Value) (s' : Shared), Inv X pins σ H s' → RelV v w' → Q w' s') (h2 : valV kvs k = none → ∀ (w' : Value) (s' : Shared), Inv X pins σ (upd H a (.dT (putK kvs k d))) s' → RelV d w' → Q w' s') :
    wpAny (model X.prog X.w) A (call (.builtin "dict.setdefault") [.ref a, .ref b, r]) Q E s := by
  obtain ⟨z, hd, xs, rel, dd⟩ := dt_of I.hok e
  have hz : xs.length ≤ sizeLine := by rw [← Paired.length rel]; exact z
  have q := rel.val k
  refine call_setdefault_heap (hsz := hz) (tupleKind_room_in1 hu) (key_of I.hok eb) hd dd (fun p hp => ?_) fun hn h' dd' hs => ?_
  · rw [hp] at q
    cases q0 : valV kvs k with
    | none =>
      rw [q0] at q
      exact (show False from q).elim
    | some v0 =>
      rw [q0] at q
      exact h1 v0 q0 _ _ (I.tok _) q
  · rw [hn] at q
    cases q0 : valV kvs k with
    | some v0 =>
      rw [q0] at q
      exact (show False from q).elim
    | none =>
      have hl2 : (putK kvs k d).length ≤ sizeLine := by
        have := length_putK kvs k d
        omega
      refine h2 q0 _ _ ?_ rd
      obtain ⟨ob, es, ep, hq, g2, g3, g4, _, g5⟩ := dd'
      refine d_write I (by rw [e]; exact True.intro) hs ⟨ob, hq⟩ ⟨hl2, hd, _, (rel.put k eb rd).keeps fun c ys ec => ?_, ob, es, ep, hq, g2, g3, g4, g5⟩
      rw [upd_ne (ne_of ec e (fun z => nomatch z))]
      exact ec
end
/-- d.setdefault(y, z), y a tuple -/
def tDSetT (td ty tx : TE) : TE := fun σ H Q => td σ H fun x H1 => ∃ a, x = .ref a ∧ IsD H1 a ∧ ty σ H1 fun y H2 => tx σ H2 fun z H3 => ∃ (kvs : List (List Key × V)) (k : List Key) (b : Addr), H3 a = some (.dT kvs) ∧ y = .ref b ∧ H3 b = some (.tup (k.map kV)) ∧ kvs.length < sizeLine ∧
  (∀ v, valV kvs k = some v → Q v H3) ∧ (valV kvs k = none → Q z (upd H3 a (.dT (putK kvs k z))))
section
variable {X : Cx} {o e f : Expr} {td ty tx : TE} {apos cpos : Pos}
theorem pe_dsetT (hu : X.A.units + 1 < cLine) (ho : PE X o td) (he : PE X e ty) (hf : PE X f tx) (m : M2 X o "setdefault" apos e f cpos) : PE X (.Call (.Attribute o "setdefault" apos) [e, f] [] cpos) (tDSetT td ty tx) := by
  refine ⟨fun pins s σ H Q I h => ?_⟩
  refine wpAny_Call_method m.base m.few m.line PySem.F.plainAttrs_dict PySem.F.slot_dict_setdefault PySem.F.type_dict_setdefault (thn (ho.run pins s σ H _ I h) fun u s1 ⟨x, H1, I1, rx, a, ex, d, q1⟩ => ?_)
  subst ex
  obtain rfl : u = Value.ref a := rx
  obtain ⟨t1, t2, _⟩ := isD_at I1 d
  refine ⟨t1, t2, ?_⟩
  rw [m.trees]
  refine Calls.callWith_builtin rfl (Calls.evalArgs_plain (Calls.spliced_cons (thn (he.run pins s1 σ H1 _ I1 q1) fun iv s2 ⟨y, H2, I2, ry, q2⟩ =>
    Calls.spliced_cons (thn (hf.run pins s2 σ H2 _ I2 q2) fun fv s3 ⟨z, H3, I3, rz, kvs, k, b, ea, ey, eb, hl, q3, q4⟩ => Calls.spliced_nil ?_))))
  subst ey
  obtain rfl : iv = Value.ref b := ry
  exact d_setdT hu I3 ea eb rz hl (fun v hv w' s4 I4 rw' => ⟨v, _, I4, rw', q3 v hv⟩) fun hn w' s4 I4 rw' => ⟨z, _, I4, rw', q4 hn⟩
end
end Kx
/-! Numbers for terms. -/
namespace K14
open PySem PySem.Spec PyProof.Rows L2 Kx
/-- is are places of ds among ts -/
def AtAll (ts : List PyData) : List Nat → List PyData → Prop
  | [], [] => True
  | i :: is, e :: es => ts[i]? = some e ∧ AtAll ts is es
  | _, _ => False
theorem AtAll.len {ts : List PyData} : ∀ {is : List Nat} {es : List PyData}, AtAll ts is es → is.length = es.length
  | [], [], _ => rfl
  | _ :: _, _ :: _, h => by rw [List.length_cons, List.length_cons, AtAll.len h.2]
  | [], _ :: _, h => h.elim
  | _ :: _, [], h => h.elim
theorem AtAll.app {ts : List PyData} : ∀ {is : List Nat} {es : List PyData} {js : List Nat} {fs : List PyData}, AtAll ts is es → AtAll ts js fs → AtAll ts (is ++ js) (es ++ fs)
  | [], [], _, _, _, g => g
  | _ :: _, _ :: _, _, _, h, g => ⟨h.1, AtAll.app h.2 g⟩
  | [], _ :: _, _, _, h, _ => h.elim
  | _ :: _, [], _, _, h, _ => h.elim
theorem AtAll.grow {ts : List PyData} (us : List PyData) : ∀ {is : List Nat} {es : List PyData}, AtAll ts is es → AtAll (ts ++ us) is es
  | [], [], _ => True.intro
  | i :: _, _ :: _, h => ⟨by rw [List.getElem?_append_left (List.getElem?_eq_some_iff.mp h.1).1]; exact h.1, AtAll.grow us h.2⟩
  | [], _ :: _, h => h.elim
  | _ :: _, [], h => h.elim
theorem AtAll.rev {ts : List PyData} : ∀ {is : List Nat} {es : List PyData}, AtAll ts is es → AtAll ts is.reverse es.reverse
  | [], [], _ => True.intro
  | i :: is, e :: es, h => by
    rw [List.reverse_cons, List.reverse_cons]
    exact AtAll.app (AtAll.rev h.2) ⟨h.1, True.intro⟩
  | [], _ :: _, h => h.elim
  | _ :: _, [], h => h.elim
theorem AtAll.same {ts : List PyData} : ∀ {is : List Nat} {es fs : List PyData}, AtAll ts is es → AtAll ts is fs → es = fs
  | [], [], [], _, _ => rfl
  | _ :: _, e :: es, f :: fs, h, g => by
    have e1 := Option.some.inj (h.1.symm.trans g.1)
    rw [e1, AtAll.same h.2 g.2]
  | [], _ :: _, _, h, _ => h.elim
  | _ :: _, [], _, h, _ => h.elim
  | [], [], _ :: _, _, g => g.elim
  | _ :: _, _ :: _, [], _, g => g.elim
theorem at_uniq {ts : List PyData} (nd : ts.Nodup) {i j : Nat} {t : PyData} (h : ts[i]? = some t) (g : ts[j]? = some t) : i = j := by
  obtain ⟨hi, e1⟩ := List.getElem?_eq_some_iff.mp h
  obtain ⟨hj, e2⟩ := List.getElem?_eq_some_iff.mp g
  exact (List.getElem_inj nd).mp (e1.trans e2.symm)
theorem AtAll.uniq {ts : List PyData} (nd : ts.Nodup) : ∀ {is js : List Nat} {es : List PyData}, AtAll ts is es → AtAll ts js es → is = js
  | [], [], [], _, _ => rfl
  | i :: is, j :: js, e :: es, h, g => by rw [at_uniq nd h.1 g.1, AtAll.uniq nd h.2 g.2]
  | [], _, _ :: _, h, _ => h.elim
  | _ :: _, _, [], h, _ => h.elim
  | _ :: _, [], _ :: _, _, g => g.elim
  | [], _ :: _, [], _, g => g.elim
/-- the last items of a list of places -/
theorem AtAll.split {ts : List PyData} : ∀ {es : List PyData} {is : List Nat} {fs : List PyData}, AtAll ts is (es ++ fs) → ∃ a b, is = a ++ b ∧ AtAll ts a es ∧ AtAll ts b fs
  | [], is, fs, h => ⟨[], is, rfl, True.intro, h⟩
  | e :: es, i :: is, fs, h => by
    obtain ⟨a, b, rfl, h1, h2⟩ := AtAll.split (es := es) h.2
    exact ⟨i :: a, b, rfl, ⟨h.1, h1⟩, h2⟩
  | _ :: _, [], _, h => h.elim
def numV (is : List Nat) : List V := is.map fun (n : Nat) => V.int (n : Int)
def numK (is : List Nat) : List Key := is.map fun (n : Nat) => (Sum.inl (n : Int) : Key)
def KeyOf (ts : List PyData) (key : List Key) (t : PyData) : Prop := ∃ (x : Str) (es : List PyData) (is : List Nat), t = .tuple (.str x :: es) ∧ key = Sum.inr x :: numK is ∧ AtAll ts is es
/-- the table of the terms ts -/
structure Tab (ts : List PyData) (kvs : List (List Key × V)) : Prop where
  len : kvs.length = ts.length
  nodup : ts.Nodup
  row : ∀ (i : Nat) t, ts[i]? = some t → ∃ key, kvs[i]? = some (key, V.int (i : Int)) ∧ KeyOf ts key t
theorem vals_some {k : List Key} {v : V} : ∀ {kvs : List (List Key × V)}, valV kvs k = some v → ∃ i : Nat, kvs[i]? = some (k, v)
  | [], h => by cases h
  | p :: r, h => by
    by_cases e : p.1 = k
    · rw [valV_pos e] at h
      refine ⟨0, ?_⟩
      rw [← e, ← Option.some.inj h]
      rfl
    · rw [valV_neg e] at h
      obtain ⟨i, hi⟩ := vals_some h
      exact ⟨i + 1, by simpa using hi⟩
theorem vals_none {k : List Key} : ∀ {kvs : List (List Key × V)}, valV kvs k = none → ∀ (i : Nat) (v : V), kvs[i]? ≠ some (k, v)
  | [], _, i, v => by simp
  | p :: r, h, i, v => by
    by_cases e : p.1 = k
    · rw [valV_pos e] at h
      cases h
    · rw [valV_neg e] at h
      intro z
      cases i with
      | zero =>
        rw [List.getElem?_cons_zero] at z
        exact e (by rw [Option.some.inj z])
      | succ i => exact vals_none h i v (by simpa using z)
theorem inl_inj : ∀ {is js : List Nat}, numK is = numK js → is = js
  | [], [], _ => rfl
  | [], _ :: _, h => by cases h
  | _ :: _, [], h => by cases h
  | i :: is, j :: js, h => by
    rw [show numK (i :: is) = Sum.inl (i : Int) :: numK is from rfl, show numK (j :: js) = Sum.inl (j : Int) :: numK js from rfl, List.cons.injEq] at h
    have e := Sum.inl.inj h.1
    rw [inl_inj h.2, show i = j by omega]
theorem KeyOf.same {ts : List PyData} {key : List Key} {t u : PyData} (h : KeyOf ts key t) (g : KeyOf ts key u) : t = u := by
  obtain ⟨x, es, is, rfl, e1, a1⟩ := h
  obtain ⟨y, fs, js, rfl, e2, a2⟩ := g
  rw [e1, List.cons.injEq] at e2
  have ex := Sum.inr.inj e2.1
  have ei := inl_inj e2.2
  subst ex ei
  rw [a1.same a2]
theorem KeyOf.uniq {ts : List PyData} (nd : ts.Nodup) {key kay : List Key} {t : PyData} (h : KeyOf ts key t) (g : KeyOf ts kay t) : key = kay := by
  obtain ⟨x, es, is, rfl, rfl, a1⟩ := h
  obtain ⟨y, fs, js, e, rfl, a2⟩ := g
  rw [PyData.tuple.injEq, List.cons.injEq, PyData.str.injEq] at e
  obtain ⟨ex, ef⟩ := e
  subst ex ef
  rw [a1.uniq nd a2]
theorem KeyOf.grow {ts : List PyData} {key : List Key} {t : PyData} (us : List PyData) (h : KeyOf ts key t) : KeyOf (ts ++ us) key t := by
  obtain ⟨x, es, is, e1, e2, a⟩ := h
  exact ⟨x, es, is, e1, e2, a.grow us⟩
theorem Tab.hit {ts : List PyData} {kvs : List (List Key × V)} {key : List Key} {t : PyData} {v : V} (T : Tab ts kvs) (k : KeyOf ts key t) (h : valV kvs key = some v) : ∃ i : Nat, v = .int (i : Int) ∧ ts[i]? = some t := by
  obtain ⟨i, hi⟩ := vals_some h
  have lt : i < ts.length := by
    rw [← T.len]
    exact (List.getElem?_eq_some_iff.mp hi).1
  obtain ⟨kay, e1, e2⟩ := T.row i _ (List.getElem?_eq_getElem lt)
  rw [hi, Option.some.injEq, Prod.mk.injEq] at e1
  obtain ⟨e1, e3⟩ := e1
  subst e1
  refine ⟨i, e3, ?_⟩
  rw [List.getElem?_eq_getElem lt, e2.same k]
theorem Tab.miss {ts : List PyData} {kvs : List (List Key × V)} {key : List Key} {t : PyData} (T : Tab ts kvs) (k : KeyOf ts key t) (h : valV kvs key = none) : Tab (ts ++ [t]) (kvs ++ [(key, .int (ts.length : Int))]) := by
  have no : t ∉ ts := fun z => by
    obtain ⟨i, hi⟩ := List.mem_iff_getElem?.mp z
    obtain ⟨kay, e1, e2⟩ := T.row i t hi
    rw [KeyOf.uniq T.nodup e2 k] at e1
    exact vals_none h i _ e1
  refine ⟨by rw [List.length_append, List.length_append, T.len]; rfl, ?_, fun i u hi => ?_⟩
  · rw [List.nodup_append]
    refine ⟨T.nodup, by simp, fun a ha b hb => ?_⟩
    rw [List.mem_singleton.mp hb]
    rintro rfl
    exact no ha
  · by_cases lt : i < ts.length
    · rw [List.getElem?_append_left lt] at hi
      obtain ⟨kay, e1, e2⟩ := T.row i u hi
      exact ⟨kay, by rw [List.getElem?_append_left (by rw [T.len]; exact lt)]; exact e1, e2.grow _⟩
    · rw [List.getElem?_append_right (Nat.le_of_not_lt lt)] at hi
      have e0 : i - ts.length = 0 := by
        have := (List.getElem?_eq_some_iff.mp hi).1
        simp at this
        omega
      rw [e0] at hi
      simp at hi
      subst hi
      have ei : i = ts.length := by omega
      subst ei
      exact ⟨key, by rw [← T.len, List.getElem?_append_right (Nat.le_refl _), Nat.sub_self]; rfl, k.grow _⟩
theorem keyV (x : Str) (is : List Nat) : ((Sum.inr x :: numK is) : List Key).map kV = V.str x :: numV is := by
  rw [List.map_cons, numK, List.map_map]
  rfl
end K14
/-! Slices and sums of tuples as data. -/
namespace Kx
open PySem PySem.Spec PyProof.Rows L2
theorem offs_nil {H : Hp} : Same H (OffS [] H) := fun b o h => OffS.out (fun z => nomatch z) h
theorem olds_nil {H : Hp} : Olds [] H := fun b z => nomatch z
section
variable {K : PySem.W.Frag} {S : List Addr} {H : Hp} {x y : V} {ds es : List PyData} {Q : VK}
theorem sl_upto {i : Nat} (hx : Dx K (OffS S H) x (.tuple ds)) (o : Olds S H) (q : ∀ y H', Same H H' → Dx K (OffS S H') y (.tuple (ds.take i)) → Q y H') : rSlA K x none (some (i : Int)) H Q := by
  cases hx with
  | @tup a xs _ ha hs =>
  refine ⟨a, xs, rfl, SqT.of (OffS.all _ _ ha), fun z => ?_, fun _ p np => ?_⟩
  · have e : min i xs.length = xs.length := by
      have := z.2
      rwa [show HT.sIx xs.length xs.length (some (i : Int)) = min i xs.length from HT.sIx_nat xs.length xs.length i] at this
    refine q _ _ (Same.refl H) ?_
    rw [List.take_of_length_le (by rw [← hs.length]; omega)]
    exact .tup ha hs
  · have e : cutV xs none (some (i : Int)) = xs.take i := by
      unfold cutV
      rw [show HT.sIx xs.length xs.length (some (i : Int)) = min i xs.length from HT.sIx_nat xs.length xs.length i, show HT.sIx xs.length 0 none = 0 from rfl, List.drop_zero, Nat.sub_zero]
      by_cases e : i ≤ xs.length
      · rw [Nat.min_eq_left e]
      · rw [Nat.min_eq_right (by omega), List.take_length, List.take_of_length_le (by omega)]
    rw [e]
    exact q _ _ (same_put np) (.tup (OffS.out (o.new np) upd_same) ((hs.take i).up (OffS.same (same_put np))))
theorem sl_from {i : Nat} (hx : Dx K (OffS S H) x (.tuple ds)) (o : Olds S H) (q : ∀ y H', Same H H' → Dx K (OffS S H') y (.tuple (ds.drop i)) → Q y H') : rSlA K x (some (i : Int)) none H Q := by
  cases hx with
  | @tup a xs _ ha hs =>
  refine ⟨a, xs, rfl, SqT.of (OffS.all _ _ ha), fun z => ?_, fun _ p np => ?_⟩
  · have e : min i xs.length = 0 := by
      have := z.1
      rwa [show HT.sIx xs.length 0 (some (i : Int)) = min i xs.length from HT.sIx_nat xs.length 0 i] at this
    refine q _ _ (Same.refl H) ?_
    by_cases h : i = 0
    · rw [h, List.drop_zero]
      exact .tup ha hs
    · have : ds = [] := List.eq_nil_of_length_eq_zero (by rw [← hs.length]; omega)
      rw [this] at hs ⊢
      rw [List.drop_nil]
      exact .tup ha hs
  · have e : cutV xs (some (i : Int)) none = xs.drop i := by
      unfold cutV
      rw [show HT.sIx xs.length 0 (some (i : Int)) = min i xs.length from HT.sIx_nat xs.length 0 i, HT.sIx_none]
      by_cases e : i ≤ xs.length
      · rw [Nat.min_eq_left e, List.take_of_length_le (by rw [List.length_drop]; omega)]
      · rw [Nat.min_eq_right (by omega), Nat.sub_self, List.take_zero, List.drop_eq_nil_of_le (by omega)]
    rw [e]
    exact q _ _ (same_put np) (.tup (OffS.out (o.new np) upd_same) ((hs.drop i).up (OffS.same (same_put np))))
theorem cat_tups (hx : Dx K (OffS S H) x (.tuple ds)) (hy : Dx K (OffS S H) y (.tuple es)) (o : Olds S H) (few : ds.length + es.length ≤ sizeLine) (q : ∀ z H', Same H H' → Dx K (OffS S H') z (.tuple (ds ++ es)) → Q z H') : rCatA K x y H Q := by
  cases hx with
  | @tup a xs _ ha hs =>
  cases hy with
  | @tup b ys _ hb ht =>
  refine ⟨a, b, xs, ys, rfl, rfl, SqT.of (OffS.all _ _ ha), SqT.of (OffS.all _ _ hb), by rw [hs.length, ht.length]; exact few, fun e => ?_, fun _ e => ?_, fun _ _ p np => ?_⟩
  · subst e
    cases hs
    exact q _ _ (Same.refl H) (.tup hb ht)
  · subst e
    cases ht
    rw [List.append_nil] at q
    exact q _ _ (Same.refl H) (.tup ha hs)
  · exact q _ _ (same_put np) (.tup (OffS.out (o.new np) upd_same) (DxAll.append (hs.up (OffS.same (same_put np))) (ht.up (OffS.same (same_put np)))))
end
end Kx
/-! All but some addresses stay. -/
namespace Kx
open PySem PySem.Spec PyProof.Rows L2
def ButL (S : List Addr) (H H' : Hp) : Prop := ∀ b o, H b = some o → b ∉ S → H' b = some o
section
variable {S S' : List Addr} {H H0 G G' : Hp} {b p : Addr} {o u : HO}
theorem ButL.refl : ButL S H H := fun _ _ h _ => h
theorem ButL.of (s : Same H G) : ButL S H G := fun b o h _ => s b o h
theorem ButL.trans (x : ButL S H G) (y : ButL S G G') : ButL S H G' := fun b o h n => y b o (x b o h n) n
theorem ButL.at (x : ButL S H G) (e : H b = some o) (n : b ∉ S) : G b = some o := x b o e n
theorem ButL.put (x : ButL S H G) (m : b ∈ S) : ButL S H (upd G b u) := fun c o h n => by
  rw [upd_ne (fun z : c = b => n (by rw [z]; exact m))]
  exact x c o h n
theorem ButL.new (x : ButL S H G) (np : G p = none) : ButL S H (upd G p u) := fun c o h n => by
  rw [upd_ne (ne_of_none (x c o h n) np)]
  exact x c o h n
theorem ButL.same (s : Same H0 H) (n : ∀ b ∈ S, H0 b = none) (x : ButL S H G) : Same H0 G := fun b o h => x b o (s b o h) fun z => by
  rw [n b z] at h
  cases h
theorem ButL.weak (x : ButL S H G) (h : ∀ b ∈ S, b ∈ S') : ButL S' H G := fun b o e n => x b o e fun z => n (h b z)
end
end Kx
namespace Kx
open PySem PySem.Spec PyProof.Rows L2
section
variable {S S' : List Addr} {H G : Hp}
theorem offs_but (x : ButL S' H G) (n : ∀ b, b ∈ S' → b ∉ S → H b = none) : Same (OffS S H) (OffS S G) := fun b o h => by
  obtain ⟨m, h⟩ := OffS.of h
  refine OffS.out m (x b o h fun z => ?_)
  rw [n b z m] at h
  cases h
theorem same_offs (s : Same H G) (n : ∀ b, b ∈ S → H b = none) : Same H (OffS S G) := fun b o h => OffS.out (fun z => by
  rw [n b z] at h
  cases h) (s b o h)
end
end Kx
/-! numbered_rows, numbered. -/
namespace K14
open PySem PySem.Spec PyProof.Rows L2 Kx
theorem isKeys_up {H H' : Hp} {kvs : List (List Key × V)} {bs : List Addr} (s : Same H H') (h : IsKeys H kvs bs) : IsKeys H' kvs bs := by
  unfold IsKeys at h ⊢
  induction h with
  | nil => exact .nil
  | cons a _ ih => exact .cons (s _ _ a) ih
theorem numV_app (a b : List Nat) : numV (a ++ b) = numV a ++ numV b := List.map_append ..
theorem at_of {α : Type} {l : List α} {k : Nat} (h : k < l.length) : l[k]? = some l[k] := List.getElem?_eq_getElem h
section
variable {P : Program} {w : World} {K : PySem.W.Frag} {mg : Str → Option Value} {base : Heap}
def spRows (K : PySem.W.Frag) : Sp := fun vs H Q _ => ∃ (a : Addr) (ws : List V) (st : List PyData), vs = [.ref a] ∧ SqL K H a ws ∧ DxAll K H ws (preAll st) ∧ formedAll st = true ∧ (preAll st).length ≤ 100000 ∧
  ∀ p nl tl H' ts is kvs bs, Same H H' → H' p = some (.tup [.ref nl, .ref tl]) → H' nl = some (.lst (numV is)) → AtAll ts is (preAll st) → Tab ts kvs → H' tl = some (.lst (bs.map V.ref)) → IsKeys H' kvs bs → Q (.ref p) H'
theorem ok_rows (T : Tx K mg) : FnOk P w K mg base CX0 1 T.anumbered_rows T.dnumbered_rows ["parts"] (spRows K) := by
  have nd := sc_numbered_rows.nd
  refine T.fnumbered_rows.ok sc_numbered_rows (fun vs H Q E h => ?_) (fun cdv A outer s H vs Q E hr h => ?_)
  · obtain ⟨a, ws, st, rfl, _⟩ := h
    rfl
  · obtain ⟨a, ws, st0, rfl, ha, hx, hf, bd, q⟩ := h
    have hu := hu_of hr
    refine ⟨_, (pss_cons (ps_set (i := 1) nd rfl (.inl rfl) pe_dnewT)
      (pss_cons (ps_set (i := 2) nd rfl (.inr rfl) (pe_lst pa_nil))
      (pss_cons (ps_set (i := 3) nd rfl (.inl rfl) (pe_lst pa_nil))
      (pss_cons (ps_for PassesOwn.never rfl (pi_list (pe_revL (pv 0))) (pg_name (i := 4) nd rfl (.inl rfl)) (pss_cons (ps_setLc (i := 5) (own := [("_", 7)]) (g := (gName 7)) (tt := tYes) (te := tBM0 K "list" rPop (tVar 2)) (by rfl) nd rfl rfl (sw_true rfl rfl rfl (by decide +kernel)) (pi_tup (pe_slice sl_tupA (pv 4) (po_some pe_int) po_none)) (blkOk_by (own := [("_", 7)]) (N := N_numbered_rows) (sc := defScope s_numbered_rows) (by decide +kernel)) (fun _ _ _ _ _ => pg_name (i := 7) nd rfl (.inl rfl)) (fun _ _ _ _ _ => pts_nil) (fun _ _ _ _ _ => by exact (pe_bm0 PySem.F.plainAttrs_list PySem.F.slot_list_pop PySem.F.type_list_pop mt_pop (pv 2))))
      (C8.pss_cut (ps_set (i := 6) nd rfl (.inl rfl) (pe_dsetT hu (pv 1) (pe_tup (pa_cons (pe_ix ix_tup (pv 4) pe_int (fun _ _ => rfl)) (StX.pa_star (pv 5) pa_nil))) (pe_callB call_len_dT (by rfl) T.b_len (by decide +kernel) (pa_cons (pv 1) pa_nil)) ⟨by rfl, by rfl, by rfl, by rfl⟩))
      (pss_cons (ps_expr (pe_bm PySem.F.plainAttrs_list PySem.F.slot_list_append PySem.F.type_list_append mt_append (pv 2) (pa_cons (pv 6) pa_nil)))
      (pss_one (ps_expr (pe_bm PySem.F.plainAttrs_list PySem.F.slot_list_append PySem.F.type_list_append mt_append (pv 3) (pa_cons (pv 6) pa_nil))))))))
      (pss_one (ps_ret (pe_tup (pa_cons (pe_revL (pv 3)) (pa_cons (pe_callTy (call_list_dT rfl) (by rfl) T.b_list (by decide +kernel) (pa_cons (pv 1) pa_nil)) pa_nil))))))))), ?_⟩
    intro t nt
    have s1 := same_put (o := .dT []) nt
    have et1 : (upd H t (.dT [])) t = some (.dT []) := upd_same
    generalize upd H t (.dT []) = H1 at s1 et1 ⊢
    refine ⟨Nat.zero_le _, fun rd nrd => ?_⟩
    have nrd0 := s1.free nrd
    have ntr : t ≠ rd := ne_of_none et1 nrd
    have s2 := s1.trans (same_put (o := .lst []) nrd)
    have et2 := same_put (o := .lst []) nrd _ _ et1
    have er2 : (upd H1 rd (.lst [])) rd = some (.lst []) := upd_same
    generalize upd H1 rd (.lst []) = H2 at s2 et2 er2 ⊢
    refine ⟨Nat.zero_le _, fun nm nnm => ?_⟩
    have nnm0 := s2.free nnm
    have ntn : t ≠ nm := ne_of_none et2 nnm
    have nrn : rd ≠ nm := ne_of_none er2 nnm
    have s3 := s2.trans (same_put (o := .lst []) nnm)
    have et3 := same_put (o := .lst []) nnm _ _ et2
    have er3 := same_put (o := .lst []) nnm _ _ er2
    have en3 : (upd H2 nm (.lst [])) nm = some (.lst []) := upd_same
    generalize upd H2 nm (.lst []) = H3 at s3 et3 er3 en3 ⊢
    refine ⟨_, rfl, a, ws, rfl, s3.seq ha, fun rp nrp => ?_⟩
    have nrp0 := s3.free nrp
    have ntp : t ≠ rp := ne_of_none et3 nrp
    have nrr : rd ≠ rp := ne_of_none er3 nrp
    have nnp : nm ≠ rp := ne_of_none en3 nrp
    have s4 := s3.trans (same_put (o := .lst ws.reverse) nrp)
    have et4 := same_put (o := .lst ws.reverse) nrp _ _ et3
    have er4 := same_put (o := .lst ws.reverse) nrp _ _ er3
    have en4 := same_put (o := .lst ws.reverse) nrp _ _ en3
    have ep4 : (upd H3 rp (.lst ws.reverse)) rp = some (.lst ws.reverse) := upd_same
    generalize upd H3 rp (.lst ws.reverse) = H4 at s4 et4 er4 en4 ep4 ⊢
    have lw := hx.length
    refine ⟨rp, rfl, ⟨_, .inl (.inl ep4)⟩, for_list (K := K) (a := rp) (xs := ws.reverse) (fun i σ H' => (∃ y4 y5 y6 y7, σ = [some (.ref a), some (.ref t), some (.ref rd), some (.ref nm), y4, y5, y6, y7]) ∧ Same H H' ∧ H' rp = some (.lst ws.reverse) ∧
        ∃ (ts : List PyData) (kvs : List (List Key × V)) (rs ms : List Nat), H' t = some (.dT kvs) ∧ Tab ts kvs ∧ ts.length ≤ i ∧ H' rd = some (.lst (numV rs)) ∧ AtAll ts rs (stk st0 ((preAll st0).length - i)).reverse ∧ H' nm = some (.lst (numV ms)) ∧ AtAll ts ms ((preAll st0).drop ((preAll st0).length - i)).reverse)
      ⟨⟨_, _, _, _, rfl⟩, s4, ep4, [], [], [], [], et4, ⟨rfl, List.nodup_nil, fun i t h => by simp at h⟩, Nat.zero_le _, er4, ?_, en4, ?_⟩ (fun i σ H' _ h => .inl (.inl h.2.2.1)) ?_ ?_⟩
    · rw [Nat.sub_zero, stk_end hf (Nat.le_refl _)]
      exact True.intro
    · rw [Nat.sub_zero, List.drop_length]
      exact True.intro
    · rintro i x σ G hi ⟨⟨y4, y5, y6, y7, rfl⟩, sG, epG, ts, kvs, rs, ms, etG, tab, lts, erG, ars, enG, ams⟩
      obtain ⟨lti, hi⟩ := rev_at hi
      rw [lw] at lti hi
      obtain ⟨v', hv', dx⟩ := hx.get (at_of (show (preAll st0).length - 1 - i < (preAll st0).length by omega))
      rw [hi] at hv'
      cases hv'
      obtain ⟨r, ek, fd, fr, ek1⟩ := stk_at hf (at_of (show (preAll st0).length - 1 - i < (preAll st0).length by omega))
      have ed := drop_at (at_of (show (preAll st0).length - 1 - i < (preAll st0).length by omega))
      rw [show (preAll st0).length - 1 - i + 1 = (preAll st0).length - i by omega] at ek1 ed
      rw [ek1] at ars
      have en1 : (preAll st0).length - (i + 1) = (preAll st0).length - 1 - i := by omega
      generalize (preAll st0)[(preAll st0).length - 1 - i] = d at dx ek fd ek1 ed ars
      obtain ⟨nm', es, rfl, l3, hnm, hfa⟩ := formed_shape fd
      rw [show kidsD (.tuple (.str nm' :: es)) = es from rfl, List.reverse_append] at ars
      obtain ⟨ra, rb, rfl, ara, arb⟩ := ars.split
      obtain ⟨ks, rfl⟩ : ∃ ks, rb = ks.reverse := ⟨rb.reverse, (List.reverse_reverse _).symm⟩
      have akb := arb.rev
      rw [List.reverse_reverse, List.reverse_reverse] at akb
      have lks := akb.len
      have lra := ara.len
      rw [List.length_reverse] at lra
      have dx' := dx
      cases dx' with
      | @tup b xs _ hb hs =>
      cases hs with
      | @cons v0 vr _ _ h0 hws =>
      cases h0
      have lvr := hws.length
      have hbG := sG _ _ hb
      refine ⟨_, rfl, 1, rfl, ?_⟩
      dsimp only [tNoPart]
      refine sl_from (S := []) (i := 1) ((dx.up sG).up offs_nil) olds_nil fun y G1 sG1 dy => ?_
      have dy := dy.up OffS.all
      rw [List.drop_one, List.tail_cons] at dy
      cases dy with
      | @tup c us _ hc hus =>
      have lus := hus.length
      refine ⟨c, rfl, ⟨_, SqT.of hc⟩, fun D nD => ?_⟩
      have ntD : t ≠ D := ne_of_none (sG1 _ _ etG) nD
      have nrD : rd ≠ D := ne_of_none (sG1 _ _ erG) nD
      have nnD : nm ≠ D := ne_of_none (sG1 _ _ enG) nD
      have npD : rp ≠ D := ne_of_none (sG1 _ _ epG) nD
      have ncD : c ≠ D := ne_of_none hc nD
      have ncr : c ≠ rd := fun e => by
        rw [e, sG1 _ _ erG] at hc
        cases hc
      refine lc_tup (K := K) (a := c) (xs := us) (fun j H6 => ButL [rd, D] G1 H6 ∧ H6 rd = some (.lst (numV (ra ++ (ks.drop j).reverse))) ∧ H6 D = some (.lst (numV (ks.take j))))
        ⟨ButL.of (same_put nD), by rw [upd_ne nrD, List.drop_zero]; exact sG1 _ _ erG, by rw [upd_same]; rfl⟩ (fun j H6 _ h => SqT.of (h.1.at hc (by simp [ncr, ncD]))) ?_ ?_
      · rintro j y H6 hj ⟨bt, e6, eD⟩
        have ltj : j < ks.length := by
          rw [lks, ← lus]
          exact (List.getElem?_eq_some_iff.mp hj).1
        have e6' : H6 rd = some (.lst (numV (ra ++ (ks.drop (j + 1)).reverse) ++ [V.int (ks[j] : Nat)])) := by
          rw [e6, drop_at (at_of ltj), List.reverse_cons, ← List.append_assoc, numV_app]
          rfl
        refine ⟨rfl, (iteT (B := False) ?_ : if true = true then _ else False)⟩
        refine ⟨_, rfl, .inl ⟨rfl, _, .inl (.inl e6')⟩, rd, _, V.int (ks[j] : Nat), rfl, rfl, e6', by simp, ?_⟩
        rw [List.dropLast_concat]
        refine ⟨_, by rw [upd_ne nrD.symm]; exact eD, ?_, ?_, ?_, ?_⟩
        · rw [numV, List.length_map, List.length_take]
          exact small1000 (by omega)
        · exact (bt.put (by simp)).put (by simp)
        · rw [upd_ne nrD, upd_same]
        · rw [upd_same, List.take_add_one, at_of ltj, numV_app]
          rfl
      · rintro H6 ⟨bt, e6, eD⟩
        rw [lus, ← lks, List.drop_length, List.reverse_nil, List.append_nil] at e6
        rw [lus, ← lks, List.take_length] at eD
        have et6 := bt.at (sG1 _ _ etG) (by simp [ntr, ntD])
        have en6 := bt.at (sG1 _ _ enG) (by simp [nrn.symm, nnD])
        have ep6 := bt.at (sG1 _ _ epG) (by simp [nrr.symm, npD])
        have nD0 : H D = none := (sG.trans sG1).free nD
        have s6 : Same H H6 := ButL.same (sG.trans sG1) (fun z hz => by
          rcases List.mem_cons.mp hz with e | hz
          · rw [e]; exact nrd0
          · rw [List.mem_singleton.mp hz]; exact nD0) bt
        have hb6 := s6 _ _ hb
        have keyOf : KeyOf ts (Sum.inr nm' :: numK ks) (.tuple (.str nm' :: es)) := ⟨nm', es, ks, rfl, rfl, akb⟩
        -- number = table.setdefault(..)
        refine ⟨fun σ' H' => ∃ (ts' : List PyData) (kvs' : List (List Key × V)) (n : Nat) (y7' : Option V), σ' = [some (.ref a), some (.ref t), some (.ref rd), some (.ref nm), some (.ref b), some (.ref D), some (.int (n : Int)), y7'] ∧ Same H H' ∧ H' rp = some (.lst ws.reverse) ∧ H' t = some (.dT kvs') ∧ Tab ts' kvs' ∧ ts'.length ≤ i + 1 ∧ (∃ u, ts' = ts ++ u) ∧ ts'[n]? = some (.tuple (.str nm' :: es)) ∧ H' rd = some (.lst (numV ra)) ∧ H' nm = some (.lst (numV ms)), ?_, ?_⟩
        · refine ⟨_, rfl, t, rfl, .inr ⟨kvs, .inl et6⟩, _, rfl, b, _, 0, _, rfl, rfl, SqT.of hb6, atI_nat (j := 0) rfl, _, rfl, D, _, rfl, .inr (.inl (.inl eD)), ?_, fun q nq => ?_⟩
          · simp only [List.append_nil, List.length_cons, numV, List.length_map]
            exact Nat.le_of_lt (small1000 (by omega))
          · have et7 := same_put (o := .tup (V.str nm' :: (numV ks ++ []))) nq _ _ et6
            have er7 := same_put (o := .tup (V.str nm' :: (numV ks ++ []))) nq _ _ e6
            have en7 := same_put (o := .tup (V.str nm' :: (numV ks ++ []))) nq _ _ en6
            have ep7 := same_put (o := .tup (V.str nm' :: (numV ks ++ []))) nq _ _ ep6
            have s7 := s6.trans (same_put (o := .tup (V.str nm' :: (numV ks ++ []))) nq)
            have eq7 : (upd H6 q (.tup (V.str nm' :: (numV ks ++ [])))) q = some (.tup ((Sum.inr nm' :: numK ks : List Key).map kV)) := by rw [upd_same, keyV, List.append_nil]
            generalize upd H6 q (.tup (V.str nm' :: (numV ks ++ []))) = H7 at et7 er7 en7 ep7 s7 eq7 ⊢
            refine ⟨_, rfl, t, kvs, rfl, et7, kvs, _, q, et7, rfl, eq7, big5 (by rw [tab.len]; omega), fun v hv => ?_, fun hv => ?_⟩
            · obtain ⟨n, rfl, hn⟩ := tab.hit keyOf hv
              exact ⟨ts, kvs, n, _, rfl, s7, ep7, et7, tab, by omega, ⟨[], (List.append_nil _).symm⟩, hn, er7, en7⟩
            · refine ⟨ts ++ [.tuple (.str nm' :: es)], kvs ++ [(Sum.inr nm' :: numK ks, .int (ts.length : Int))], ts.length, _, by rw [tab.len]; rfl, fun z o hz => ?_, by rw [upd_ne ntp.symm]; exact ep7, ?_, tab.miss keyOf hv, by rw [List.length_append, List.length_singleton]; omega, ⟨_, rfl⟩, by simp, by rw [upd_ne ntr.symm]; exact er7, by rw [upd_ne ntn.symm]; exact en7⟩
              · rw [upd_ne (ne_of_none hz nt)]
                exact s7 z o hz
              · rw [upd_same, putK_new _ hv, tab.len]
        · rintro σ' H7 ⟨ts', kvs', n, y7', rfl, s7, ep7, et7, tab', lts', ⟨u, eu⟩, hn, er7, en7⟩
          have lms := ams.len
          rw [List.length_reverse, List.length_drop] at lms
          have lst : (stk st0 ((preAll st0).length - i)).length ≤ 100000 := by
            have := len_pre (stk st0 ((preAll st0).length - i))
            rw [stk_drop hf, List.length_drop] at this
            omega
          rw [ek1, List.length_append] at lst
          refine ⟨_, rfl, .inl ⟨rfl, _, .inl (.inl er7)⟩, _, rfl, rd, _, .int (n : Int), rfl, rfl, er7, big5 (by rw [numV, List.length_map]; omega), ?_⟩
          have en8 : (upd H7 rd (.lst (numV ra ++ [V.int (n : Int)]))) nm = some (.lst (numV ms)) := by
            rw [upd_ne nrn.symm]
            exact en7
          refine ⟨_, rfl, .inl ⟨rfl, _, .inl (.inl en8)⟩, _, rfl, nm, _, .int (n : Int), rfl, rfl, en8, big5 (by rw [numV, List.length_map]; omega), ?_⟩
          refine ⟨⟨_, _, _, _, rfl⟩, fun z o hz => ?_, ?_, ts', kvs', ra ++ [n], ms ++ [n], ?_, tab', lts', ?_, ?_, ?_, ?_⟩
          · rw [upd_ne (ne_of_none hz nnm0), upd_ne (ne_of_none hz nrd0)]
            exact s7 z o hz
          · rw [upd_ne nnp.symm, upd_ne nrr.symm]
            exact ep7
          · rw [upd_ne ntn, upd_ne ntr]
            exact et7
          · rw [upd_ne nrn, upd_same]
            simp [numV]
          · rw [en1, ek, List.reverse_cons, eu]
            rw [eu] at hn
            exact (ara.grow u).app ⟨hn, True.intro⟩
          · rw [upd_same]
            simp [numV]
          · rw [en1, ed, List.reverse_cons, eu]
            rw [eu] at hn
            exact (ams.grow u).app ⟨hn, True.intro⟩
    · rintro σ G ⟨⟨y4, y5, y6, y7, rfl⟩, sG, epG, ts, kvs, rs, ms, etG, tab, lts, erG, ars, enG, ams⟩
      have eN : (preAll st0).length - ws.reverse.length = 0 := by rw [List.length_reverse, lw]; omega
      rw [eN, List.drop_zero] at ams
      refine ⟨_, rfl, nm, _, rfl, .inl (.inl enG), fun l1 n1 => ?_⟩
      have sl1 := same_put (o := .lst (numV ms).reverse) n1
      refine ⟨_, rfl, t, kvs, rfl, .inl (sl1 _ _ etG), fun l2 bs n2 ik => ?_⟩
      have sl2 := same_put (o := .lst (bs.map V.ref)) n2
      have n12 : l1 ≠ l2 := ne_of_none upd_same n2
      refine ⟨by show 2 ≤ sizeLine; decide, fun p np => ?_⟩
      have sp := same_put (o := .tup [V.ref l1, V.ref l2]) np
      refine q p l1 l2 _ ts ms.reverse kvs bs (sG.trans (sl1.trans (sl2.trans sp))) upd_same (sp _ _ (sl2 _ _ ?_)) ?_ tab (sp _ _ upd_same) (isKeys_up (sl2.trans sp) ik)
      · rw [upd_same, numV, numV, List.map_reverse]
      · have := ams.rev
        rwa [List.reverse_reverse] at this
end
end K14
/-! Terms replaced, terms with other names. -/
namespace K14
open PySem PySem.Spec PyProof.Rows L2 Kx
mutual
theorem eqv_eq : ∀ (d o : PyData), formedD d = true → PyData.eqv d o = true → d = o
  | .tuple (.str x :: ds), .tuple (.str y :: es), h, e => by
    simp only [PyData.eqv, PyData.eqvAll, Bool.and_eq_true, beq_iff_eq] at e
    rw [formedD, Bool.and_eq_true] at h
    rw [e.1, eqv_all ds es h.2 e.2]
  | .tuple (.str x :: ds), .tuple [], h, e => by simp [PyData.eqv, PyData.eqvAll] at e
  | .tuple (.str x :: ds), .tuple (.none :: es), h, e => by simp [PyData.eqv, PyData.eqvAll] at e
  | .tuple (.str x :: ds), .tuple (.bool _ :: es), h, e => by simp [PyData.eqv, PyData.eqvAll] at e
  | .tuple (.str x :: ds), .tuple (.int _ :: es), h, e => by simp [PyData.eqv, PyData.eqvAll] at e
  | .tuple (.str x :: ds), .tuple (.list _ :: es), h, e => by simp [PyData.eqv, PyData.eqvAll] at e
  | .tuple (.str x :: ds), .tuple (.tuple _ :: es), h, e => by simp [PyData.eqv, PyData.eqvAll] at e
  | .tuple (.str x :: ds), .tuple (.dict _ :: es), h, e => by simp [PyData.eqv, PyData.eqvAll] at e
  | .tuple (.str x :: ds), .none, h, e => by simp [PyData.eqv] at e
  | .tuple (.str x :: ds), .bool _, h, e => by simp [PyData.eqv] at e
  | .tuple (.str x :: ds), .int _, h, e => by simp [PyData.eqv] at e
  | .tuple (.str x :: ds), .str _, h, e => by simp [PyData.eqv] at e
  | .tuple (.str x :: ds), .list _, h, e => by simp [PyData.eqv] at e
  | .tuple (.str x :: ds), .dict _, h, e => by simp [PyData.eqv] at e
  | .tuple (.none :: ds), _, h, e => by simp [formedD, nameD] at h
  | .tuple (.bool _ :: ds), _, h, e => by simp [formedD, nameD] at h
  | .tuple (.int _ :: ds), _, h, e => by simp [formedD, nameD] at h
  | .tuple (.list _ :: ds), _, h, e => by simp [formedD, nameD] at h
  | .tuple (.tuple _ :: ds), _, h, e => by simp [formedD, nameD] at h
  | .tuple (.dict _ :: ds), _, h, e => by simp [formedD, nameD] at h
  | .tuple [], _, h, e => by simp [formedD] at h
  | .none, _, h, e => by simp [formedD] at h
  | .bool _, _, h, e => by simp [formedD] at h
  | .int _, _, h, e => by simp [formedD] at h
  | .str _, _, h, e => by simp [formedD] at h
  | .list _, _, h, e => by simp [formedD] at h
  | .dict _, _, h, e => by simp [formedD] at h
theorem eqv_all : ∀ (ds es : List PyData), formedAll ds = true → PyData.eqvAll ds es = true → ds = es
  | [], [], _, _ => rfl
  | [], _ :: _, _, e => by simp [PyData.eqvAll] at e
  | _ :: _, [], _, e => by simp [PyData.eqvAll] at e
  | d :: ds, e :: es, h, g => by
    rw [formedAll, Bool.and_eq_true] at h
    rw [PyData.eqvAll, Bool.and_eq_true] at g
    rw [eqv_eq d e h.1 g.1, eqv_all ds es h.2 g.2]
end
mutual
theorem eqv_self : ∀ (d : PyData), formedD d = true → PyData.eqv d d = true
  | .tuple (.str x :: ds), h => by
    rw [formedD, Bool.and_eq_true] at h
    simp only [PyData.eqv, PyData.eqvAll, Bool.and_eq_true, beq_iff_eq]
    exact ⟨trivial, eqv_selfs ds h.2⟩
  | .tuple (.none :: ds), h => by simp [formedD, nameD] at h
  | .tuple (.bool _ :: ds), h => by simp [formedD, nameD] at h
  | .tuple (.int _ :: ds), h => by simp [formedD, nameD] at h
  | .tuple (.list _ :: ds), h => by simp [formedD, nameD] at h
  | .tuple (.tuple _ :: ds), h => by simp [formedD, nameD] at h
  | .tuple (.dict _ :: ds), h => by simp [formedD, nameD] at h
  | .tuple [], h => by simp [formedD] at h
  | .none, h => by simp [formedD] at h
  | .bool _, h => by simp [formedD] at h
  | .int _, h => by simp [formedD] at h
  | .str _, h => by simp [formedD] at h
  | .list _, h => by simp [formedD] at h
  | .dict _, h => by simp [formedD] at h
theorem eqv_selfs : ∀ (ds : List PyData), formedAll ds = true → PyData.eqvAll ds ds = true
  | [], _ => by simp [PyData.eqvAll]
  | d :: ds, h => by
    rw [formedAll, Bool.and_eq_true] at h
    rw [PyData.eqvAll, eqv_self d h.1, eqv_selfs ds h.2]
    rfl
end
theorem eqv_iff {d o : PyData} (h : formedD d = true) : PyData.eqv d o = true ↔ d = o :=
  ⟨eqv_eq d o h, fun e => by rw [← e]; exact eqv_self d h⟩
mutual
/-- n in the place of o -/
def putD (o n : PyData) : PyData → PyData
  | .tuple (x :: ds) => if PyData.eqv (.tuple (x :: ds)) o = true then n else .tuple (x :: putAll o n ds)
  | d => if PyData.eqv d o = true then n else d
def putAll (o n : PyData) : List PyData → List PyData
  | [] => []
  | d :: ds => putD o n d :: putAll o n ds
end
theorem putAll_map (o n : PyData) : ∀ ds : List PyData, putAll o n ds = ds.map (putD o n)
  | [] => rfl
  | d :: ds => by rw [putAll, putAll_map o n ds, List.map_cons]
mutual
/-- other names -/
def renD (f : Str → Str) : PyData → PyData
  | .tuple (x :: ds) => .tuple ((match x with | .str z => .str (f z) | c => c) :: renAll f ds)
  | d => d
def renAll (f : Str → Str) : List PyData → List PyData
  | [] => []
  | d :: ds => renD f d :: renAll f ds
end
theorem renAll_map (f : Str → Str) : ∀ ds : List PyData, renAll f ds = ds.map (renD f)
  | [] => rfl
  | d :: ds => by rw [renAll, renAll_map f ds, List.map_cons]
mutual
theorem put_formed (o n : PyData) (hn : formedD n = true) : ∀ d : PyData, formedD d = true → formedD (putD o n d) = true
  | .tuple (x :: ds), h => by
    rw [putD]
    split
    · exact hn
    · rw [formedD, Bool.and_eq_true] at h ⊢
      refine ⟨?_, put_formeds o n hn ds h.2⟩
      rw [putAll_map, List.length_map]
      exact h.1
  | .tuple [], h => by cases h
  | .none, h => by cases h
  | .bool _, h => by cases h
  | .int _, h => by cases h
  | .str _, h => by cases h
  | .list _, h => by cases h
  | .dict _, h => by cases h
theorem put_formeds (o n : PyData) (hn : formedD n = true) : ∀ ds : List PyData, formedAll ds = true → formedAll (putAll o n ds) = true
  | [], _ => rfl
  | d :: ds, h => by
    rw [formedAll, Bool.and_eq_true] at h
    rw [putAll, formedAll, put_formed o n hn d h.1, put_formeds o n hn ds h.2]
    rfl
end
mutual
theorem ren_formed (f : Str → Str) (hf : ∀ x, isNm x = true → isNm (f x) = true) : ∀ d : PyData, formedD d = true → formedD (renD f d) = true
  | .tuple (.str x :: ds), h => by
    simp only [renD, formedD, Bool.and_eq_true, nameD] at h ⊢
    refine ⟨⟨?_, hf x h.1.2⟩, ren_formeds f hf ds h.2⟩
    rw [renAll_map, List.length_map]
    exact h.1.1
  | .tuple (.none :: ds), h => by simp [formedD, nameD] at h
  | .tuple (.bool _ :: ds), h => by simp [formedD, nameD] at h
  | .tuple (.int _ :: ds), h => by simp [formedD, nameD] at h
  | .tuple (.list _ :: ds), h => by simp [formedD, nameD] at h
  | .tuple (.tuple _ :: ds), h => by simp [formedD, nameD] at h
  | .tuple (.dict _ :: ds), h => by simp [formedD, nameD] at h
  | .tuple [], h => by cases h
  | .none, h => by cases h
  | .bool _, h => by cases h
  | .int _, h => by cases h
  | .str _, h => by cases h
  | .list _, h => by cases h
  | .dict _, h => by cases h
theorem ren_formeds (f : Str → Str) (hf : ∀ x, isNm x = true → isNm (f x) = true) : ∀ ds : List PyData, formedAll ds = true → formedAll (renAll f ds) = true
  | [], _ => rfl
  | d :: ds, h => by
    rw [formedAll, Bool.and_eq_true] at h
    rw [renAll, formedAll, ren_formed f hf d h.1, ren_formeds f hf ds h.2]
    rfl
end
end K14
/-! numbered, put_in. -/
namespace K14
open PySem PySem.Spec PyProof.Rows L2 Kx
theorem AtAll.get {ts : List PyData} : ∀ {is : List Nat} {es : List PyData} {k : Nat} {t : PyData}, AtAll ts is es → es[k]? = some t → ∃ i, is[k]? = some i ∧ ts[i]? = some t
  | i :: is, e :: es, 0, t, h, g => by
    rw [List.getElem?_cons_zero] at g
    rw [← Option.some.inj g]
    exact ⟨i, rfl, h.1⟩
  | i :: is, e :: es, k + 1, t, h, g => by
    obtain ⟨j, h1, h2⟩ := AtAll.get (k := k) h.2 (by simpa using g)
    exact ⟨j, by simpa using h1, h2⟩
  | [], [], k, t, _, g => by simp at g
  | [], _ :: _, _, _, h, _ => h.elim
  | _ :: _, [], _, _, h, _ => h.elim
theorem DxAll.split {K : PySem.W.Frag} {H : Hp} : ∀ {ds : List PyData} {vs : List V} {es : List PyData}, DxAll K H vs (ds ++ es) → ∃ a b, vs = a ++ b ∧ DxAll K H a ds ∧ DxAll K H b es
  | [], vs, es, h => ⟨[], vs, rfl, .nil, h⟩
  | d :: ds, _, es, .cons h t => by
    obtain ⟨a, b, rfl, h1, h2⟩ := DxAll.split t
    exact ⟨_ :: a, b, rfl, .cons h h1, h2⟩
theorem numV_get {is : List Nat} {k i : Nat} (h : is[k]? = some i) : (numV is)[k]? = some (V.int (i : Int)) := by
  rw [numV, List.getElem?_map, h]
  rfl
section
variable {P : Program} {w : World} {K : PySem.W.Frag} {mg : Str → Option Value} {base : Heap}
def spNums (K : PySem.W.Frag) : Sp := fun vs H Q _ => ∃ (a : Addr) (ws : List V) (st : List PyData), vs = [.ref a] ∧ SqL K H a ws ∧ DxAll K H ws (preAll st) ∧ formedAll st = true ∧ (preAll st).length ≤ 100000 ∧
  ∀ nl H' ts is, Same H H' → H' nl = some (.lst (numV is)) → AtAll ts is (preAll st) → ts.Nodup → Q (.ref nl) H'
theorem ok_nums (T : Tx K mg) : FnOk P w K mg base CX0 2 T.anumbered T.dnumbered ["parts"] (spNums K) := by
  have nd := sc_numbered.nd
  have G := ok_rows (P := P) (w := w) (base := base) T
  refine T.fnumbered.ok sc_numbered (fun vs H Q E h => ?_) (fun cdv A outer s H vs Q E hr h => ?_)
  · obtain ⟨a, ws, st, rfl, _⟩ := h
    rfl
  · obtain ⟨a, ws, st0, rfl, ha, hx, hf, bd, q⟩ := h
    refine ⟨_, (pss_one (ps_ret (pe_ix ix_tup (pe_call G (hr.mono (by omega)) (by rfl) T.gnumbered_rows T.fnumbered_rows.kp T.nnumbered_rows .nil pass0 (pa_cons (pv 0) pa_nil)) pe_int (fun _ _ => rfl)))), ?_⟩
    exact ⟨_, rfl, a, ws, st0, rfl, ha, hx, hf, bd, fun p nl tl H' ts is kvs bs s e1 e2 at_ tab _ _ => ⟨p, _, 0, _, rfl, rfl, SqT.of e1, atI_nat (j := 0) rfl, q nl H' ts is s e2 at_ tab.nodup⟩⟩
def spPut (K : PySem.W.Frag) : Sp := fun vs H Q _ => ∃ (x o n : V) (d e c : PyData), vs = [x, o, n] ∧ Dx K H x d ∧ Dx K H o e ∧ Dx K H n c ∧ formedD d = true ∧ formedD e = true ∧ (preD d).length + (preD e).length ≤ 100000 ∧
  ∀ v H', Same H H' → Dx K H' v (putD e c d) → Q v H'
theorem ok_put (T : Tx K mg) : FnOk P w K mg base CX0 3 T.aput_in T.dput_in ["term", "old", "new"] (spPut K) := by
  have nd := sc_put_in.nd
  have G1 := ok_pre (P := P) (w := w) (base := base) T
  have G2 := ok_nums (P := P) (w := w) (base := base) T
  refine T.fput_in.ok sc_put_in (fun vs H Q E h => ?_) (fun cdv A outer s H vs Q E hr h => ?_)
  · obtain ⟨x, o, n, d, e, c, rfl, _⟩ := h
    rfl
  · obtain ⟨x, o, n, d, e, c, rfl, hx, ho, hn, fd, fe, bd, q⟩ := h
    refine ⟨_, (pss_cons (ps_set (i := 3) nd rfl (.inl rfl) (pe_callB call_len_seq (by rfl) T.b_len (by decide +kernel) (pa_cons (pe_call G1 (hr.mono (by omega)) (by rfl) T.gpreorder T.fpreorder.kp T.npreorder .nil pass0 (pa_cons (pe_lst (pa_cons (pv 1) pa_nil)) pa_nil)) pa_nil)))
      (pss_cons (ps_set (i := 4) nd rfl (.inl rfl) (pe_call G1 (hr.mono (by omega)) (by rfl) T.gpreorder T.fpreorder.kp T.npreorder .nil pass0 (pa_cons (pe_lst (pa_cons (pv 1) (pa_cons (pv 0) pa_nil))) pa_nil)))
      (pss_cons (ps_set (i := 5) nd rfl (.inl rfl) (pe_call G2 (hr.mono (by omega)) (by rfl) T.gnumbered T.fnumbered.kp T.nnumbered .nil pass0 (pa_cons (pv 4) pa_nil)))
      (pss_cons (ps_set (i := 6) nd rfl (.inr rfl) (pe_lst pa_nil))
      (pss_cons (ps_for PassesOwn.never rfl (pi_range3 (by rfl) T.b_range (pa_cons (pe_op op_sub (pe_callB call_len_seq (by rfl) T.b_len (by decide +kernel) (pa_cons (pv 4) pa_nil)) pe_int) (pa_cons (pe_op op_sub (pv 3) pe_int) (pa_cons (pe_un un_neg pe_int) pa_nil)))) (pg_name (i := 7) nd rfl (.inl rfl)) (pss_cons (ps_setLc (i := 8) (own := [("_", 9)]) (g := (gName 9)) (tt := tYes) (te := tBM0 K "list" rPop (tVar 6)) (by rfl) nd rfl rfl (sw_true rfl rfl rfl (by decide +kernel)) (pi_tup (pe_slice sl_tupA (pe_ix ix_list (pv 4) (pv 7) (fun _ _ => rfl)) (po_some pe_int) po_none)) (blkOk_by (own := [("_", 9)]) (N := N_put_in) (sc := defScope s_put_in) (by decide +kernel)) (fun _ _ _ _ _ => pg_name (i := 9) nd rfl (.inl rfl)) (fun _ _ _ _ _ => pts_nil) (fun _ _ _ _ _ => (pe_bm0 PySem.F.plainAttrs_list PySem.F.slot_list_pop PySem.F.type_list_pop mt_pop (pv 6))))
      (pss_one (ps_if (pt_cmpR op_eq (pe_ix ix_list (pv 5) (pv 7) (fun _ _ => rfl)) (pe_ix ix_list (pv 5) pe_int (fun _ _ => rfl)) (nomark _)) (pss_one (ps_expr (pe_bm PySem.F.plainAttrs_list PySem.F.slot_list_append PySem.F.type_list_append mt_append (pv 6) (pa_cons (pv 2) pa_nil)))) (pss_one (ps_expr (pe_bm PySem.F.plainAttrs_list PySem.F.slot_list_append PySem.F.type_list_append mt_append (pv 6) (pa_cons (pe_tup (pa_cons (pe_ix ix_tup (pe_ix ix_list (pv 4) (pv 7) (fun _ _ => rfl)) pe_int (fun _ _ => rfl)) (StX.pa_star (pv 8) pa_nil))) pa_nil))))))))
      (pss_one (ps_ret (pe_ix ix_list (pv 6) pe_int (fun _ _ => rfl))))))))), ?_⟩
    have eP1 : preAll [e] = preD e := by simp [preAll]
    have eP2 : preAll [e, d] = preD e ++ preD d := by simp [preAll]
    have f2 : formedAll [e, d] = true := by simp [formedAll, fe, fd]
    have lN : (preAll [e, d]).length = (preD e).length + (preD d).length := by rw [eP2, List.length_append]
    -- many
    refine ⟨_, rfl, (by show 1 ≤ sizeLine; decide), fun l1 n1 => ?_⟩
    have s1 := same_put (o := .lst [o]) n1
    refine ⟨l1, [o], [e], H, rfl, .inl (.inl upd_same), s1, .cons ho .nil, by simp [formedAll, fe], by rw [eP1]; omega, fun p1 H1 us1 sA np1 ep1 du1 => ⟨p1, us1, rfl, .inl (.inl (.inl ep1)), ?_⟩⟩
    have lu1 := du1.length
    rw [eP1] at lu1
    rw [lu1]
    have s2 := s1.trans sA
    -- parts
    refine ⟨_, rfl, _, rfl, (by show 2 ≤ sizeLine; decide), fun l2 n2 => ?_⟩
    have s3 := s2.trans (same_put (o := .lst [o, x]) n2)
    refine ⟨l2, [o, x], [e, d], H, rfl, .inl (.inl upd_same), s3, .cons ho (.cons hx .nil), f2, by rw [lN]; omega, fun pp H2 us2 sB npp epp du2 => ?_⟩
    have s4 := s3.trans sB
    have du2 := du2.up s4
    have lu2 := du2.length
    -- numbers
    refine ⟨_, rfl, pp, us2, [e, d], rfl, .inl (.inl epp), du2, f2, by rw [lN]; omega, fun nl H3 ts is sC enl at_ ndt => ?_⟩
    have s5 := s4.trans sC
    have epp3 := sC _ _ epp
    have du3 := du2.up sC
    have lis := at_.len
    -- ready
    refine ⟨Nat.zero_le _, fun rd nrd => ?_⟩
    have nrd0 := s5.free nrd
    have s6 := s5.trans (same_put (o := .lst []) nrd)
    have epp4 := same_put (o := .lst []) nrd _ _ epp3
    have enl4 := same_put (o := .lst []) nrd _ _ enl
    have er4 : (upd H3 rd (.lst [])) rd = some (.lst []) := upd_same
    have npr : pp ≠ rd := ne_of_none epp3 nrd
    have nnr : nl ≠ rd := ne_of_none enl nrd
    have sO : Same H3 (OffS [rd] (upd H3 rd (.lst []))) := same_offs (same_put nrd) (fun b hb => by rw [List.mem_singleton.mp hb]; exact nrd)
    generalize upd H3 rd (.lst []) = H4 at s6 epp4 enl4 er4 sO ⊢
    have du4 := du3.up sO
    have hn4 := (hn.up s5).up sO
    have rg : RgC ((us2.length : Int) - 1) (((preD e).length : Int) - 1) (-1) (preD d).length := by
      have z := RgC.neg (i := (us2.length : Int) - 1) (j := ((preD e).length : Int) - 1) (by omega) (by omega) (by omega) (by omega)
      rwa [show ((us2.length : Int) - 1 - (((preD e).length : Int) - 1)).toNat = (preD d).length by omega] at z
    have hend : stk [e, d] (preD e).length = [d] := stk_first fe (by simp [formedAll, fd])
    have one : ∀ b, b ∈ [rd] → H b = none := fun b hb => by rw [List.mem_singleton.mp hb]; exact nrd0
    refine ⟨_, rfl, pp, us2, rfl, .inl (.inl (.inl epp4)), _, 1, rfl, rfl, _, rfl, _, 1, rfl, rfl, 1, rfl, _, _, _, _, rfl, rg, for_rangeC (fun t σ G => (∃ y7 y8 y9, σ = [some x, some o, some n, some (.int ((preD e).length : Nat)), some (.ref pp), some (.ref nl), some (.ref rd), y7, y8, y9]) ∧ ButL [rd] H4 G ∧
        ∃ rs : List V, G rd = some (.lst rs) ∧ DxAll K (OffS [rd] G) rs ((stk [e, d] (us2.length - t)).map (putD e c)).reverse)
      ⟨⟨_, _, _, rfl⟩, ButL.refl, [], er4, ?_⟩ ?_ ?_⟩
    · rw [Nat.sub_zero, stk_end f2 (by omega)]
      exact .nil
    · rintro t σ G ht ⟨⟨y7, y8, y9, rfl⟩, bG, rs, erG, drs⟩
      have hk : us2.length - 1 - t < us2.length := by omega
      have hk2 : us2.length - 1 - t < (preAll [e, d]).length := by omega
      have sG : Same H G := ButL.same s6 one bG
      have eppG := bG.at epp4 (by simp [npr])
      have enlG := bG.at enl4 (by simp [nnr])
      have so : Same (OffS [rd] H4) (OffS [rd] G) := offs_but bG (fun b h1 h2 => absurd h1 h2)
      obtain ⟨v, hv, dv⟩ := du4.get (at_of hk2)
      obtain ⟨r, ek, fp, fr, ek1⟩ := stk_at f2 (at_of hk2)
      obtain ⟨i, hi, ti⟩ := at_.get (at_of hk2)
      obtain ⟨i0, hi0, ti0⟩ := at_.get (k := 0) (t := e) (by rw [eP2, preD_eq fe]; rfl)
      have en1 : us2.length - t = us2.length - 1 - t + 1 := by omega
      have en2 : us2.length - (t + 1) = us2.length - 1 - t := by omega
      rw [en1, ek1] at drs
      rw [en2, ek]
      generalize (preAll [e, d])[us2.length - 1 - t] = p at dv ek fp ek1 ti drs ⊢
      obtain ⟨nm, es, rfl, l3, hnm, hfa⟩ := formed_shape fp
      rw [show kidsD (.tuple (.str nm :: es)) = es from rfl, List.map_append, List.reverse_append] at drs
      obtain ⟨ra, rb, rfl, dra, drb⟩ := DxAll.split drs
      obtain ⟨zs, rfl⟩ : ∃ zs, rb = zs.reverse := ⟨rb.reverse, (List.reverse_reverse _).symm⟩
      have dzs := dxr drb
      rw [List.reverse_reverse, List.reverse_reverse] at dzs
      have lzs := dzs.length
      rw [List.length_map] at lzs
      have lra := dra.length
      rw [List.length_reverse, List.length_map] at lra
      have lst : r.length ≤ 100000 := by
        have z := len_pre (stk [e, d] (us2.length - 1 - t))
        rw [stk_drop f2, List.length_drop, ek, List.length_cons] at z
        omega
      have dvG := dv.up so
      have dv' := dvG
      cases dv' with
      | @tup b xs _ hb hs =>
      cases hs with
      | @cons v0 vr _ _ h0 hws =>
      cases h0
      have hbG : G b = some (.tup (.str nm :: vr)) := OffS.all _ _ hb
      rw [show ((us2.length : Int) - 1 + ((t : Nat) : Int) * -1) = ((us2.length - 1 - t : Nat) : Int) by omega]
      refine ⟨_, rfl, _, rfl, pp, us2, _, _, rfl, rfl, .inl (.inl eppG), atI_nat (j := us2.length - 1 - t) hv, 1, rfl, ?_⟩
      dsimp only [tNoPart]
      refine sl_from (S := []) (i := 1) ((dvG.up OffS.all).up offs_nil) olds_nil fun y G1 sG1 dy => ?_
      have dy := dy.up OffS.all
      rw [List.drop_one, List.tail_cons] at dy
      cases dy with
      | @tup cc us _ hc hus =>
      have lus := hus.length
      have erG1 := sG1 _ _ erG
      have so1 : Same (OffS [rd] G) (OffS [rd] G1) := OffS.same sG1
      refine ⟨cc, rfl, ⟨_, SqT.of hc⟩, fun D nD => ?_⟩
      have nrD : rd ≠ D := ne_of_none erG1 nD
      have ncD : cc ≠ D := ne_of_none hc nD
      have ncr : cc ≠ rd := fun z => by
        rw [z, erG1] at hc
        cases hc
      refine lc_tup (K := K) (a := cc) (xs := us) (fun j H6 => ButL [rd, D] G1 H6 ∧ H6 rd = some (.lst (ra ++ (zs.drop j).reverse)) ∧ H6 D = some (.lst (zs.take j)))
        ⟨ButL.of (same_put nD), by rw [upd_ne nrD, List.drop_zero]; exact erG1, by rw [upd_same]; rfl⟩ (fun j H6 _ h => SqT.of (h.1.at hc (by simp [ncr, ncD]))) ?_ ?_
      · rintro j y H6 hj ⟨bt, e6, eD⟩
        have ltj : j < zs.length := by
          rw [lzs, ← lus]
          exact (List.getElem?_eq_some_iff.mp hj).1
        have e6' : H6 rd = some (.lst (ra ++ (zs.drop (j + 1)).reverse ++ [zs[j]])) := by
          rw [e6, drop_at (at_of ltj), List.reverse_cons, ← List.append_assoc]
        refine ⟨rfl, (iteT (B := False) ?_ : if true = true then _ else False)⟩
        refine ⟨_, rfl, .inl ⟨rfl, _, .inl (.inl e6')⟩, rd, _, zs[j], rfl, rfl, e6', by simp, ?_⟩
        rw [List.dropLast_concat]
        refine ⟨_, by rw [upd_ne nrD.symm]; exact eD, ?_, ?_, ?_, ?_⟩
        · rw [List.length_take]
          exact small1000 (by omega)
        · exact (bt.put (by simp)).put (by simp)
        · rw [upd_ne nrD, upd_same]
        · rw [upd_same, List.take_add_one, at_of ltj]
          rfl
      · rintro H6 ⟨bt, e6, eD⟩
        rw [lus, ← lzs, List.drop_length, List.reverse_nil, List.append_nil] at e6
        rw [lus, ← lzs, List.take_length] at eD
        have nD0 : H4 D = none := by
          cases z : H4 D with
          | none => rfl
          | some ob =>
            rw [sG1 _ _ (bG.at z (by simp [nrD.symm]))] at nD
            cases nD
        have epp6 := bt.at (sG1 _ _ eppG) (by simp [npr, ne_of_none (sG1 _ _ eppG) nD])
        have enl6 := bt.at (sG1 _ _ enlG) (by simp [nnr, ne_of_none (sG1 _ _ enlG) nD])
        have nbr : b ≠ rd := fun z => by
          rw [z, erG] at hbG
          cases hbG
        have hb6 := bt.at (sG1 _ _ hbG) (by simp [nbr, ne_of_none (sG1 _ _ hbG) nD])
        have so6 : Same (OffS [rd] G1) (OffS [rd] H6) := offs_but bt (fun b h1 h2 => by
          rcases List.mem_cons.mp h1 with z | h1
          · exact absurd (by rw [z]; exact List.mem_singleton_self _) h2
          · rw [List.mem_singleton.mp h1]; exact nD)
        have b6 : ButL [rd, D] H4 H6 := (bG.weak (by simp)).trans ((ButL.of sG1).trans bt)
        have dra6 := dra.up (so1.trans so6)
        have dzs6 := dzs.up (so1.trans so6)
        have hn6 := hn4.up (so.trans (so1.trans so6))
        have fin : ∀ (G' : Hp) (v : V) (σ' : L2.St), (∃ y7 y8 y9, σ' = [some x, some o, some n, some (.int ((preD e).length : Nat)), some (.ref pp), some (.ref nl), some (.ref rd), y7, y8, y9]) → Same H6 G' → Dx K (OffS [rd] G') v (putD e c (.tuple (.str nm :: es))) →
            (∃ y7 y8 y9, σ' = [some x, some o, some n, some (.int ((preD e).length : Nat)), some (.ref pp), some (.ref nl), some (.ref rd), y7, y8, y9]) ∧ ButL [rd] H4 (upd G' rd (.lst (ra ++ [v]))) ∧ ∃ rs : List V, (upd G' rd (.lst (ra ++ [v]))) rd = some (.lst rs) ∧ DxAll K (OffS [rd] (upd G' rd (.lst (ra ++ [v])))) rs (((.tuple (.str nm :: es)) :: r).map (putD e c)).reverse := fun G' v σ' hσ sG' dv => by
          have so7 : Same (OffS [rd] G') (OffS [rd] (upd G' rd (.lst (ra ++ [v])))) := offs_but (ButL.put ButL.refl (List.mem_singleton_self _)) (fun b h1 h2 => absurd h1 h2)
          refine ⟨hσ, fun bb ob hh nn => ?_, _, upd_same, ?_⟩
          · rw [upd_ne (fun z => nn (by rw [z]; exact List.mem_singleton_self _))]
            exact sG' _ _ (b6 bb ob hh (by
              intro z
              rcases List.mem_cons.mp z with z | z
              · exact nn (by rw [z]; exact List.mem_singleton_self _)
              · rw [List.mem_singleton.mp z, nD0] at hh
                cases hh))
          · rw [List.map_cons, List.reverse_cons]
            exact DxAll.append (dra6.up ((OffS.same sG').trans so7)) (.cons (dv.up so7) .nil)
        refine ⟨_, rfl, _, rfl, nl, _, _, _, rfl, rfl, .inl (.inl enl6), atI_nat (j := us2.length - 1 - t) (numV_get hi), _, rfl, nl, _, 0, _, rfl, rfl, .inl (.inl enl6), atI_nat (j := 0) (numV_get hi0), rfl, _, rfl, ite2 (fun e1 => ?_) (fun e1 => ?_)⟩
        · have z := V.int.inj (of_decide_eq_true e1)
          have eii : i = i0 := by omega
          have epe : PyData.tuple (.str nm :: es) = e := by
            rw [eii, ti0] at ti
            exact (Option.some.inj ti).symm
          refine ⟨_, rfl, .inl ⟨rfl, _, .inl (.inl e6)⟩, _, rfl, rd, ra, n, rfl, rfl, e6, big5 (by omega), ?_⟩
          refine fin H6 n _ ⟨_, _, _, rfl⟩ (Same.refl _) ?_
          rw [putD, if_pos ((eqv_iff fp).mpr epe)]
          exact hn6
        · have epe : ¬ PyData.tuple (.str nm :: es) = e := fun z => by
            rw [z] at ti
            rw [at_uniq ndt ti ti0] at e1
            simp at e1
          refine ⟨_, rfl, .inl ⟨rfl, _, .inl (.inl e6)⟩, _, rfl, _, rfl, pp, us2, _, _, rfl, rfl, .inl (.inl epp6), atI_nat (j := us2.length - 1 - t) hv, b, _, 0, _, rfl, rfl, SqT.of hb6, atI_nat (j := 0) rfl, _, rfl, D, _, rfl, .inr (.inl (.inl eD)), ?_, fun q1 nq => ?_⟩
          · simp only [List.append_nil, List.length_cons]
            exact Nat.le_of_lt (small1000 (by omega))
          · have sq := same_put (o := .tup (V.str nm :: (zs ++ []))) nq
            have e7 := sq _ _ e6
            have nqr : q1 ≠ rd := fun z => by
              rw [z, e6] at nq
              cases nq
            refine ⟨rd, ra, _, rfl, rfl, e7, big5 (by omega), ?_⟩
            refine fin _ _ _ ⟨_, _, _, rfl⟩ sq ?_
            rw [putD, if_neg (fun z => epe ((eqv_iff fp).mp z)), putAll_map]
            have dzq := dzs6.up (OffS.same sq)
            rw [List.append_nil] at dzq ⊢
            exact .tup (OffS.out (by simp [nqr]) upd_same) (.cons (.str nm) dzq)
    · rintro σ G ⟨⟨y7, y8, y9, rfl⟩, bG, rs, erG, drs⟩
      rw [show us2.length - (preD d).length = (preD e).length by omega, hend] at drs
      cases drs with
      | @cons v _ _ _ dv drs =>
      cases drs
      exact ⟨_, rfl, rd, _, 0, v, rfl, rfl, .inl (.inl erG), atI_nat (j := 0) rfl, q v G (ButL.same s6 one bG) (dv.up OffS.all)⟩
end
end K14
/-! with_names. -/
namespace K14
open PySem PySem.Spec PyProof.Rows L2 Kx
def strD (m : List (Str × Str)) : List (Key × V) := m.map fun p => (Sum.inr p.1, V.str p.2)
def look (m : List (Str × Str)) (x : Str) : Option Str := (m.find? fun p => decide (p.1 = x)).map Prod.snd
def nmOf (m : List (Str × Str)) (x : Str) : Str := (look m x).getD x
theorem val_strD (x : Str) : ∀ m : List (Str × Str), valV (strD m) (Sum.inr x) = (look m x).map V.str
  | [] => rfl
  | p :: m => by
    by_cases e : p.1 = x
    · rw [show strD (p :: m) = (Sum.inr p.1, V.str p.2) :: strD m from rfl, valV_pos (by rw [e]), look, List.find?_cons_of_pos (by simp [e])]
      rfl
    · rw [show strD (p :: m) = (Sum.inr p.1, V.str p.2) :: strD m from rfl, valV_neg (fun z => e (Sum.inr.inj z)), val_strD x m, look, look, List.find?_cons_of_neg (by simp [e])]
theorem look_getD (m : List (Str × Str)) (x : Str) : ((look m x).map V.str).getD (V.str x) = V.str (nmOf m x) := by
  unfold nmOf
  cases look m x <;> rfl
theorem rd_up {H H' : Hp} {a : Addr} {u : HO} (s : Same H H') (h : Rd H a u) : Rd H' a u := by
  rcases h with h | ⟨o, h⟩
  · exact .inl (s _ _ h)
  · exact .inr ⟨o, s _ _ h⟩
section
variable {P : Program} {w : World} {K : PySem.W.Frag} {mg : Str → Option Value} {base : Heap}
def spWith (K : PySem.W.Frag) : Sp := fun vs H Q _ => ∃ (x : V) (a : Addr) (d : PyData) (m : List (Str × Str)), vs = [x, .ref a] ∧ Dx K H x d ∧ Rd H a (.dK (strD m)) ∧ formedD d = true ∧ (preD d).length ≤ 100000 ∧
  ∀ v H', Same H H' → Dx K H' v (renD (nmOf m) d) → Q v H'
theorem ok_with (T : Tx K mg) : FnOk P w K mg base CX0 2 T.awith_names T.dwith_names ["term", "names"] (spWith K) := by
  have nd := sc_with_names.nd
  have G1 := ok_pre (P := P) (w := w) (base := base) T
  refine T.fwith_names.ok sc_with_names (fun vs H Q E h => ?_) (fun cdv A outer s H vs Q E hr h => ?_)
  · obtain ⟨x, a, d, m, rfl, _⟩ := h
    rfl
  · obtain ⟨x, a, d, m, rfl, hx, ha, fd, bd, q⟩ := h
    have hu := hu_of hr
    refine ⟨_, (pss_cons (ps_set (i := 2) nd rfl (.inr rfl) (pe_lst pa_nil))
      (pss_cons (ps_for PassesOwn.never rfl (pi_list (pe_revL (pe_call G1 (hr.mono (by omega)) (by rfl) T.gpreorder T.fpreorder.kp T.npreorder .nil pass0 (pa_cons (pe_lst (pa_cons (pv 0) pa_nil)) pa_nil)))) (pg_name (i := 3) nd rfl (.inl rfl)) (pss_cons (ps_setLc (i := 4) (own := [("_", 5)]) (g := (gName 5)) (tt := tYes) (te := tBM0 K "list" rPop (tVar 2)) (by rfl) nd rfl rfl (sw_true rfl rfl rfl (by decide +kernel)) (pi_tup (pe_slice sl_tupA (pv 3) (po_some pe_int) po_none)) (blkOk_by (own := [("_", 5)]) (N := N_with_names) (sc := defScope s_with_names) (by decide +kernel)) (fun _ _ _ _ _ => pg_name (i := 5) nd rfl (.inl rfl)) (fun _ _ _ _ _ => pts_nil) (fun _ _ _ _ _ => (pe_bm0 PySem.F.plainAttrs_list PySem.F.slot_list_pop PySem.F.type_list_pop mt_pop (pv 2))))
      (pss_one (ps_expr (pe_bm PySem.F.plainAttrs_list PySem.F.slot_list_append PySem.F.type_list_append mt_append (pv 2) (pa_cons (pe_tup (pa_cons (pe_dget2 hu (pv 1) (pe_ix ix_tup (pv 3) pe_int (fun _ _ => rfl)) (pe_ix ix_tup (pv 3) pe_int (fun _ _ => rfl)) ⟨by rfl, by rfl, by rfl, by rfl⟩) (StX.pa_star (pv 4) pa_nil))) pa_nil))))))
      (pss_one (ps_ret (pe_ix ix_list (pv 2) pe_int (fun _ _ => rfl)))))), ?_⟩
    have f1 : formedAll [d] = true := by simp [formedAll, fd]
    have eP : preAll [d] = preD d := by simp [preAll]
    refine ⟨Nat.zero_le _, fun rd nrd0 => ?_⟩
    have s1 := same_put (o := .lst []) nrd0
    have er1 : (upd H rd (.lst [])) rd = some (.lst []) := upd_same
    generalize upd H rd (.lst []) = H1 at s1 er1 ⊢
    refine ⟨_, rfl, (by show 1 ≤ sizeLine; decide), fun l1 n1 => ?_⟩
    have s2 := s1.trans (same_put (o := .lst [x]) n1)
    have er2 := same_put (o := .lst [x]) n1 _ _ er1
    refine ⟨l1, [x], [d], H, rfl, .inl (.inl upd_same), s2, .cons hx .nil, f1, by rw [eP]; exact bd, fun pp H2 us sA npp epp du => ⟨pp, us, rfl, .inl (.inl epp), fun rp nrp => ?_⟩⟩
    have s3 := s2.trans sA
    have er3 := sA _ _ er2
    have lu := du.length
    have s4 := s3.trans (same_put (o := .lst us.reverse) nrp)
    have er4 := same_put (o := .lst us.reverse) nrp _ _ er3
    have nrr : rd ≠ rp := ne_of_none er3 nrp
    have ep4 : (upd H2 rp (.lst us.reverse)) rp = some (.lst us.reverse) := upd_same
    generalize upd H2 rp (.lst us.reverse) = H4 at s4 er4 ep4 ⊢
    have one : ∀ b, b ∈ [rd] → H b = none := fun b hb => by rw [List.mem_singleton.mp hb]; exact nrd0
    have sO : Same H (OffS [rd] H4) := same_offs s4 one
    have du4 := du.up sO
    refine ⟨rp, rfl, ⟨_, .inl (.inl ep4)⟩, for_list (K := K) (a := rp) (xs := us.reverse) (fun t σ G => (∃ y3 y4 y5, σ = [some x, some (.ref a), some (.ref rd), y3, y4, y5]) ∧ ButL [rd] H4 G ∧
        ∃ rs : List V, G rd = some (.lst rs) ∧ DxAll K (OffS [rd] G) rs ((stk [d] (us.length - t)).map (renD (nmOf m))).reverse)
      ⟨⟨_, _, _, rfl⟩, ButL.refl, [], er4, ?_⟩ (fun t σ G _ h => .inl (.inl (h.2.1.at ep4 (by simp [nrr.symm])))) ?_ ?_⟩
    · rw [Nat.sub_zero, stk_end f1 (by omega)]
      exact .nil
    · rintro t v σ G hi ⟨⟨y3, y4, y5, rfl⟩, bG, rs, erG, drs⟩
      obtain ⟨lti, hi⟩ := rev_at hi
      have hk2 : us.length - 1 - t < (preAll [d]).length := by omega
      have sG : Same H G := ButL.same s4 one bG
      have so : Same (OffS [rd] H4) (OffS [rd] G) := offs_but bG (fun b h1 h2 => absurd h1 h2)
      obtain ⟨v', hv, dv⟩ := du4.get (at_of hk2)
      rw [hi] at hv
      cases hv
      obtain ⟨r, ek, fp, fr, ek1⟩ := stk_at f1 (at_of hk2)
      have en1 : us.length - t = us.length - 1 - t + 1 := by omega
      have en2 : us.length - (t + 1) = us.length - 1 - t := by omega
      rw [en1, ek1] at drs
      rw [en2, ek]
      generalize (preAll [d])[us.length - 1 - t] = p at dv ek fp ek1 drs ⊢
      obtain ⟨nm, es, rfl, l3, hnm, hfa⟩ := formed_shape fp
      rw [show kidsD (.tuple (.str nm :: es)) = es from rfl, List.map_append, List.reverse_append] at drs
      obtain ⟨ra, rb, rfl, dra, drb⟩ := DxAll.split drs
      obtain ⟨zs, rfl⟩ : ∃ zs, rb = zs.reverse := ⟨rb.reverse, (List.reverse_reverse _).symm⟩
      have dzs := dxr drb
      rw [List.reverse_reverse, List.reverse_reverse] at dzs
      have lzs := dzs.length
      rw [List.length_map] at lzs
      have lra := dra.length
      rw [List.length_reverse, List.length_map] at lra
      have lst : r.length ≤ 100000 := by
        have z := len_pre (stk [d] (us.length - 1 - t))
        rw [stk_drop f1, List.length_drop, ek, List.length_cons, eP] at z
        omega
      have dvG := dv.up so
      have dv' := dvG
      cases dv' with
      | @tup b xs _ hb hs =>
      cases hs with
      | @cons v0 vr _ _ h0 hws =>
      cases h0
      have hbG : G b = some (.tup (.str nm :: vr)) := OffS.all _ _ hb
      refine ⟨_, rfl, 1, rfl, ?_⟩
      dsimp only [tNoPart]
      refine sl_from (S := []) (i := 1) ((dvG.up OffS.all).up offs_nil) olds_nil fun y G1 sG1 dy => ?_
      have dy := dy.up OffS.all
      rw [List.drop_one, List.tail_cons] at dy
      cases dy with
      | @tup cc vs2 _ hc hus =>
      have lus := hus.length
      have erG1 := sG1 _ _ erG
      have so1 : Same (OffS [rd] G) (OffS [rd] G1) := OffS.same sG1
      refine ⟨cc, rfl, ⟨_, SqT.of hc⟩, fun D nD => ?_⟩
      have nrD : rd ≠ D := ne_of_none erG1 nD
      have ncD : cc ≠ D := ne_of_none hc nD
      have ncr : cc ≠ rd := fun z => by
        rw [z, erG1] at hc
        cases hc
      refine lc_tup (K := K) (a := cc) (xs := vs2) (fun j H6 => ButL [rd, D] G1 H6 ∧ H6 rd = some (.lst (ra ++ (zs.drop j).reverse)) ∧ H6 D = some (.lst (zs.take j)))
        ⟨ButL.of (same_put nD), by rw [upd_ne nrD, List.drop_zero]; exact erG1, by rw [upd_same]; rfl⟩ (fun j H6 _ h => SqT.of (h.1.at hc (by simp [ncr, ncD]))) ?_ ?_
      · rintro j y H6 hj ⟨bt, e6, eD⟩
        have ltj : j < zs.length := by
          rw [lzs, ← lus]
          exact (List.getElem?_eq_some_iff.mp hj).1
        have e6' : H6 rd = some (.lst (ra ++ (zs.drop (j + 1)).reverse ++ [zs[j]])) := by
          rw [e6, drop_at (at_of ltj), List.reverse_cons, ← List.append_assoc]
        refine ⟨rfl, (iteT (B := False) ?_ : if true = true then _ else False)⟩
        refine ⟨_, rfl, .inl ⟨rfl, _, .inl (.inl e6')⟩, rd, _, zs[j], rfl, rfl, e6', by simp, ?_⟩
        rw [List.dropLast_concat]
        refine ⟨_, by rw [upd_ne nrD.symm]; exact eD, ?_, ?_, ?_, ?_⟩
        · rw [List.length_take]
          exact small1000 (by omega)
        · exact (bt.put (by simp)).put (by simp)
        · rw [upd_ne nrD, upd_same]
        · rw [upd_same, List.take_add_one, at_of ltj]
          rfl
      · rintro H6 ⟨bt, e6, eD⟩
        rw [lus, ← lzs, List.drop_length, List.reverse_nil, List.append_nil] at e6
        rw [lus, ← lzs, List.take_length] at eD
        have nD0 : H4 D = none := by
          cases z : H4 D with
          | none => rfl
          | some ob =>
            rw [sG1 _ _ (bG.at z (by simp [nrD.symm]))] at nD
            cases nD
        have nbr : b ≠ rd := fun z => by
          rw [z, erG] at hbG
          cases hbG
        have hb6 := bt.at (sG1 _ _ hbG) (by simp [nbr, ne_of_none (sG1 _ _ hbG) nD])
        have so6 : Same (OffS [rd] G1) (OffS [rd] H6) := offs_but bt (fun b h1 h2 => by
          rcases List.mem_cons.mp h1 with z | h1
          · exact absurd (by rw [z]; exact List.mem_singleton_self _) h2
          · rw [List.mem_singleton.mp h1]; exact nD)
        have b6 : ButL [rd, D] H4 H6 := (bG.weak (by simp)).trans ((ButL.of sG1).trans bt)
        have s6 : Same H H6 := ButL.same s4 (fun z hz => by
          rcases List.mem_cons.mp hz with e | hz
          · rw [e]; exact nrd0
          · rw [List.mem_singleton.mp hz]; exact s4.free nD0) b6
        have ha6 := rd_up s6 ha
        have dra6 := dra.up (so1.trans so6)
        have dzs6 := dzs.up (so1.trans so6)
        refine ⟨_, rfl, .inl ⟨rfl, _, .inl (.inl e6)⟩, _, rfl, a, rfl, .inl ⟨_, ha6⟩, _, rfl, b, _, 0, _, rfl, rfl, SqT.of hb6, atI_nat (j := 0) rfl, _, rfl, b, _, 0, _, rfl, rfl, SqT.of hb6, atI_nat (j := 0) rfl, _, .inl ⟨strD m, Sum.inr nm, ha6, rfl, rfl⟩, _, rfl, D, _, rfl, .inr (.inl (.inl eD)), ?_, fun q1 nq => ?_⟩
        · simp only [List.append_nil, List.length_cons]
          exact Nat.le_of_lt (small1000 (by omega))
        · rw [val_strD, look_getD, List.append_nil] at *
          have sq := same_put (o := .tup (V.str (nmOf m nm) :: zs)) nq
          have e7 := sq _ _ e6
          have nqr : q1 ≠ rd := fun z => by
            rw [z, e6] at nq
            cases nq
          refine ⟨rd, ra, _, rfl, rfl, e7, big5 (by omega), ?_⟩
          have so7 : Same (OffS [rd] (upd H6 q1 (.tup (V.str (nmOf m nm) :: zs)))) (OffS [rd] (upd (upd H6 q1 (.tup (V.str (nmOf m nm) :: zs))) rd (.lst (ra ++ [.ref q1])))) := offs_but (ButL.put ButL.refl (List.mem_singleton_self _)) (fun b h1 h2 => absurd h1 h2)
          refine ⟨⟨_, _, _, rfl⟩, fun bb ob hh nn => ?_, _, upd_same, ?_⟩
          · rw [upd_ne (fun z => nn (by rw [z]; exact List.mem_singleton_self _))]
            exact sq _ _ (b6 bb ob hh (by
              intro z
              rcases List.mem_cons.mp z with z | z
              · exact nn (by rw [z]; exact List.mem_singleton_self _)
              · rw [List.mem_singleton.mp z, nD0] at hh
                cases hh))
          · rw [List.map_cons, List.reverse_cons]
            refine DxAll.append (dra6.up ((OffS.same sq).trans so7)) (.cons ?_ .nil)
            rw [show renD (nmOf m) (.tuple (.str nm :: es)) = .tuple (.str (nmOf m nm) :: es.map (renD (nmOf m))) by rw [renD, renAll_map]]
            exact (Dx.tup (OffS.out (by simp [nqr]) upd_same) (.cons (.str _) (dzs6.up (OffS.same sq)))).up so7
    · rintro σ G ⟨⟨y3, y4, y5, rfl⟩, bG, rs, erG, drs⟩
      rw [show us.length - us.reverse.length = 0 by rw [List.length_reverse]; omega] at drs
      cases drs with
      | @cons v _ _ _ dv drs =>
      cases drs
      exact ⟨_, rfl, rd, _, 0, v, rfl, rfl, .inl (.inl erG), atI_nat (j := 0) rfl, q v G (ButL.same s4 one bG) (dv.up OffS.all)⟩
end
end K14
/-! {elt for target in iter}, elt a text or an int; its length. -/
namespace Kx
open PySem PySem.Spec PyProof.Rows L2 PpSet
section
variable {X : Cx}
/-- what a turn leaves: Nx the heap behind it -/
abbrev TurnK (P : Program) (w : World) (D : Addr) (te : TE) (σ : L2.St) (H : Hp) (Nx : Hp → Prop) : Prop :=
  te σ H fun y G => ∃ (c : Key) (S : Key → Bool) (n : Nat), y = kV c ∧ G D = some (L2.SetK P w D S n) ∧ n + 1 < scanBound ∧ Nx (upd G D (L2.SetK P w D (fun j => S j || decide (j = c)) (if S c = true then n else n + 1)))
def tScK (P : Program) (w : World) (wi : TI) (g : TG) (tt : TT) (te : TE) (vs : List Nat) : TE := fun σ H Q => wi σ H fun J H1 => ∀ D, H1 D = none →
  ∃ W : Nat → Nat → Hp → Prop, (∃ m, W 0 m (upd H1 D (L2.SetK P w D (fun _ => false) 0))) ∧ ∀ i m G, W i m G → (J.stop i G ∧ Q (.ref D) G) ∨
    (J.go i G ∧ ∃ Nx : Hp → Prop, (∀ G', Nx G' → ∃ m', m' < m ∧ W (i + 1) m' G') ∧ ∀ x G', J.yld i G x G' → g x (wipe σ vs) G' fun σ2 G2 => wipe σ2 vs = wipe σ vs ∧ tt σ2 G2 fun b G3 => if b = true then TurnK P w D te σ2 G3 Nx else Nx G3)
theorem emptyK {P : Program} {w : World} {h : Heap} : (h.push { cls := .type "set", dict := none, data := .set #[] 0 (.fresh 0 0 (!w.params.followText "set-order")) }).SetOf (mixKind P w) h.objs.size (fun _ => false) 0 :=
  ⟨_, #[], 0, _, Heap.get?_push_size _ rfl, ⟨rfl, rfl, rfl⟩, rfl, (fun e he => by simp at he), (fun k => by simp), (by decide), (by rfl), rfl⟩
theorem pe_scK {elt tg iter : Expr} {ifs : List Expr} {scope : Scope} {own : List (PySem.Str × Nat)} {pos : Pos} {wi : TI} {g : TG} {tt : TT} {te : TE} (hc : X.calm = true) (hN : X.N.Nodup) (hi : PI X tg iter wi) (ok : BlkOk X.N X.env.scope scope own)
    (hg : ∀ (s : Shared) (H : Hp) (C : Addr) (cl : List (PySem.Str × Addr)) (fp : List Addr), PG (X.blk s H scope (compEnvC scope cl C X.env) fp) tg g)
    (ht : ∀ (s : Shared) (H : Hp) (C : Addr) (cl : List (PySem.Str × Addr)) (fp : List Addr), PTs (X.blk s H scope (compEnvC scope cl C X.env) fp) ifs tt)
    (he : ∀ (s : Shared) (H : Hp) (C : Addr) (cl : List (PySem.Str × Addr)) (fp : List Addr), PE (X.blk s H scope (compEnvC scope cl C X.env) fp) elt te) (hs : ∀ x, foldedSetIterable iter X.env x = pure x := by intro _; rfl) :
    PE X (.SetComp elt [⟨tg, iter, ifs, 0⟩] scope pos) (tScK X.prog X.w wi g tt te (own.map (·.2))) := by
  refine ⟨fun pins s σ H Q I hQ => ?_⟩
  have cells : ∀ y ∈ scope.names, y.2 = .free → ∃ c, X.env.cells.lookup y.1 = some c := fun y hy e =>
    (ok.free y hy e).elim (fun z => I.ok.has _ (.inl z)) (fun z => I.ok.has _ (.inr z))
  rw [eval_SetComp]
  refine wpAny_comprehension_free (use := none) rfl hs (closure_ok cells) ok.kind (fun y hy e => by rw [ok.uniq y hy, e]) (thn (hi.run pins s σ H _ I hQ) fun xv sa ha => thn ha fun itv sb hb => ?_)
  obtain ⟨it, fp, tn, J, Hb, rfl, Ib, T, stb, fb, qb⟩ := hb
  refine newSet_ok (newEnv_comp ?_)
  obtain ⟨D, eD⟩ : ∃ D, D = sb.heap.objs.size := ⟨_, rfl⟩
  have nD : Hb D = none := Ib.hok.fresh (by rw [eD]; exact Nat.le_refl _)
  obtain ⟨W, ⟨m0, w0⟩, turns⟩ := qb D nD
  obtain ⟨sc, esc⟩ : ∃ sc : Shared, sc = { sb with heap := sb.heap.push { cls := .type "set", dict := none, data := .set #[] 0 (.fresh 0 0 (!X.w.params.followText "set-order")) } } := ⟨_, rfl⟩
  have hsc : sc.heap = sb.heap.push { cls := .type "set", dict := none, data := .set #[] 0 (.fresh 0 0 (!X.w.params.followText "set-order")) } := by rw [esc]
  have Ic : Inv X pins σ (upd Hb D (L2.SetK X.prog X.w D (fun _ => false) 0)) sc := by
    subst esc eD
    exact Ib.laid (t' := sb.toks) (fun b o e => Heap.get?_push_of_some _ e) (Nat.le_refl _) (L2.setK_new emptyK)
  have old : ∀ b ∈ fp, b < sb.heap.objs.size := fun b hb => by
    obtain ⟨o, e, _⟩ := T.obj _ _ stb b hb
    exact Heap.lt_size e
  have fc : ∀ b ∈ fp, FpOk X pins (upd Hb D (L2.SetK X.prog X.w D (fun _ => false) 0)) b ∧ b < sc.heap.objs.size := fun b hb => by
    have lt := old b hb
    refine ⟨⟨?_, (fb b hb).2⟩, by rw [hsc, Heap.size_push]; exact Nat.lt_succ_of_lt lt⟩
    rw [upd_ne (show b ≠ D by rw [eD]; exact Nat.ne_of_lt lt)]
    exact (fb b hb).1
  have stc : tn 0 sc.heap := T.keep _ _ _ stb fun b _ o e => by
    rw [hsc]
    exact Heap.get?_push_of_some _ e
  obtain ⟨Hc, eHc⟩ : ∃ Hc, Hc = upd Hb D (L2.SetK X.prog X.w D (fun _ => false) 0) := ⟨_, rfl⟩
  rw [← eHc] at Ic fc w0
  obtain ⟨cl, ecl⟩ : ∃ cl, cl = cellsFrom (sc.heap.objs.size + 1) scope.names (cloFrom X.env.cells scope.names []) := ⟨_, rfl⟩
  have Id := block_start Ic ok hN fc
  have pg := hg sc Hc sc.heap.objs.size cl fp
  have pt := ht sc Hc sc.heap.objs.size cl fp
  have pe := he sc Hc sc.heap.objs.size cl fp
  have goal : codeAny (model X.prog X.w) X.A (.compStart (.SetComp elt [⟨tg, iter, ifs, 0⟩] scope pos) 0 (.ref it) (.ref D) (compEnvC scope cl sc.heap.objs.size X.env)) (compPost (model X.prog X.w) X.A X.xe none (EP X pins σ Q) (.ref D) sc.heap.objs.size)
      { sc with heap := pushCells (sc.heap.push { cls := .type "dict", data := .dict #[] }) scope.names } := by
    rw [← ecl] at Id
    obtain ⟨ce, ece⟩ : ∃ ce, ce = compEnvC scope cl sc.heap.objs.size X.env := ⟨_, rfl⟩
    rw [← ece] at Id pg pt pe ⊢
    have loc : ce.locals = sc.heap.objs.size := by rw [ece]; rfl
    obtain ⟨sd, esd⟩ : ∃ sd : Shared, sd = { sc with heap := pushCells (sc.heap.push { cls := .type "dict", data := .dict #[] }) scope.names } := ⟨_, rfl⟩
    rw [← esd] at Id ⊢
    have std : tn 0 sd.heap := T.keep _ _ _ stc fun b _ o e => by
      rw [esd]
      exact pushCells_keeps _ _ _ _ (Heap.get?_push_of_some _ e)
    have inB : ∀ {τ : L2.St} {G : Hp} {z : Shared}, Inv (X.blk sc Hc scope ce fp) [] τ G z → (∀ b ∈ fp, G b = none) → ∀ b ∈ fp, FpOk (X.blk sc Hc scope ce fp) [] G b := fun {τ G z} I' hn b hb =>
      ⟨hn b hb, (I'.ok.exf b hb).1, I'.ok.exfs b hb, .inl hb, fun x c e => (I'.ok.exf b hb).2 x c e, fun p hp => absurd (show p ∈ ([] : List (Addr × Obj)) ++ [] from hp) (by simp)⟩
    have main : codeAny (model X.prog X.w) X.A (.compLoop (.SetComp elt [⟨tg, iter, ifs, 0⟩] scope pos) 0 (.ref it) (.ref D) ce) (compPost (model X.prog X.w) X.A X.xe none (EP X pins σ Q) (.ref D) sc.heap.objs.size) sd := by
      refine compLoopS_any (fun n z => ∃ i G, Inv (X.blk sc Hc scope ce fp) [] (wipe σ (own.map (·.2))) G z ∧ tn i z.heap ∧ (∀ b ∈ fp, G b = none) ∧ W i n G) ?_ m0 ⟨0, Hc, Id, std, fun b hb => (fc b hb).1.1, w0⟩
      rintro n z ⟨i, G, IG, stG, nG, wG⟩
      rcases turns i n G wG with ⟨stop, qq⟩ | ⟨go, Nx, hNx, step⟩
      · refine thnF (T.done (X.blk sc Hc scope ce fp) rfl rfl rfl hc i [] z _ G (fun _ _ => False) IG (inB IG nG) stG stop) fun r z2 ⟨hr, I2⟩ => ?_
        subst hr
        have I3 : Inv X pins σ G z2 := Ic.call' (ch := fp) I2.os I2.base I2.hok I2.bare fun b hb => ⟨(fc b hb).1.2.2.2.1, (fc b hb).1.2.1, (fc b hb).1.2.2.2.2.1, (fc b hb).1.2.2.2.2.2⟩
        have nC : G sc.heap.objs.size = none := by
          have z : G ce.locals = none := I2.free
          rwa [loc] at z
        obtain ⟨mm, hm, _⟩ := I2.loc
        have hm : z2.heap.Ns ce.locals mm := hm
        rw [loc] at hm
        refine ⟨mm, hm, fun h'' up => ?_⟩
        obtain ⟨f0, f1, f2, f3, f4, f5⟩ := Ic.fpOk (Nat.le_refl _) nC
        exact ⟨.ref D, G, I3.turned (t' := z2.toks) (fun b o hb e => (up.2 b hb).trans e) f0 f1 f3 f4 f5, rfl, qq⟩
      · refine thnF (T.item (X.blk sc Hc scope ce fp) rfl rfl rfl hc i [] z _ G (fun _ _ => False) IG (inB IG nG) stG go) fun r z2 ⟨u, hr, h2⟩ => ?_
        subst hr
        refine thnF h2 fun _ z3 ⟨x, G3, I3, r3, y3, st3, n3⟩ => ?_
        refine thnF (pg.run _ z3 _ G3 x u _ (I3.pinned (inB I3 n3) (T.obj _ _ st3)) r3 (step x G3 y3)) fun _ z4 ⟨σ4, G4, I4, hw, q4⟩ => ?_
        refine thnF (pt.run _ z4 σ4 G4 _ I4 q4) fun b z5 ⟨G5, I5, q5⟩ => ?_
        have back : ∀ {z' : Shared} {G' : Hp}, Inv (X.blk sc Hc scope ce fp) ([] ++ pinsAt fp z3.heap) σ4 G' z' → Nx G' → ∃ m, m < n ∧ ∃ i G, Inv (X.blk sc Hc scope ce fp) [] (wipe σ (own.map (·.2))) G z' ∧ tn i z'.heap ∧ (∀ b ∈ fp, G b = none) ∧ W i m G := fun {z' G'} I' nx => by
          obtain ⟨m', lt, w'⟩ := hNx G' nx
          have at' : ∀ b ∈ fp, ∀ o, z3.heap.get? b = some o → z'.heap.get? b = some o ∧ G' b = none := fun b hb o e =>
            have p := I'.pin (b, o) (List.mem_append_right _ (List.mem_append_right _ (mem_pinsAt hb e)))
            ⟨p.1, p.2.1⟩
          refine ⟨m', lt, i + 1, G', (I'.unpinned (pins := [])).weak (by rw [← hw, wipe_length]) (fun j v e => ?_), T.keep _ _ _ st3 fun b hb o e => (at' b hb o e).1, fun b hb => ?_, w'⟩
          · rw [← hw] at e
            exact (wipe_some e).1
          · obtain ⟨o, e, _⟩ := T.obj _ _ st3 b hb
            exact (at' b hb o e).2
        by_cases eb : b = true
        · subst eb
          simp only [if_true] at q5 ⊢
          refine thnF (pe.run _ z5 σ4 G5 _ I5 q5) fun v z6 ⟨yv, G6, I6, r6, c, S, k, ey, h6, room, nx⟩ => ?_
          subst ey
          exact thnF (mt_saddK (X := X.blk sc Hc scope ce fp) _ z6 σ4 G6 (.ref D) [kV c] (.ref D) [v] (fun _ G' => Nx G') I6 rfl (.cons r6 .nil) ⟨D, c, S, k, rfl, rfl, h6, room, nx⟩) fun _ z7 ⟨_, G7, I7, _, nx7⟩ => back I7 nx7
        · have eb' : b = false := by simpa using eb
          subst eb'
          simp only [Bool.false_eq_true, if_false] at q5 ⊢
          exact back I5 q5
    exact codeAny_compStart_set main (T.self X.A 0 _ _ _ std main)
  rw [ecl] at goal
  subst esc eD
  exact goal
end
end Kx
namespace Kx
open PySem PySem.Spec PyProof.Rows L2 PpSet
section
variable {X : Cx}
def rLenSK (P : Program) (w : World) : List V → Hp → VK → Prop := fun xs H Q => ∃ (a : Addr) (S : Key → Bool) (n : Nat), xs = [.ref a] ∧ H a = some (L2.SetK P w a S n) ∧ Q (.int (n : Nat)) H
theorem call_lenSK : CallR X (.builtin "len") (rLenSK X.prog X.w) := by
  intro pins s σ H xs us Q I rv h
  obtain ⟨a, S, n, rfl, ha, q⟩ := h
  obtain ⟨u, rfl, ru⟩ := rv.one
  cases ru
  obtain ⟨o, es, ep, t, ho, hex, hd, _, _, few, hf, hn⟩ := L2.setK_get I ha
  have e4 : scanBound = 4096 := rfl
  exact call_len_set ho hex hd hf (by omega) ⟨.int (n : Nat), H, I.tok _, ⟨_, by rw [hn]⟩, q⟩
end
/-- a set comprehension over the keys of a locked dict -/
theorem sck_keys {P : Program} {w : World} {d : Addr} {o : Obj} {kvs : List (Key × V)} {g : TG} {tt : TT} {te : TE} {vs : List Nat} {σ : L2.St} {H1 : Hp} {D : Addr} {Qd : Hp → Prop} (Pv : Nat → Hp → Prop) (h0 : Pv 0 (upd H1 D (L2.SetK P w D (fun _ => false) 0)))
    (hl : ∀ i H, Pv i H → H d = some (.frz o (.dK kvs))) (hs : ∀ (i : Nat) k v H, kvs[i]? = some (k, v) → Pv i H → g (kV k) (wipe σ vs) H fun σ2 H2 => wipe σ2 vs = wipe σ vs ∧ tt σ2 H2 fun b H3 => if b = true then TurnK P w D te σ2 H3 (Pv (i + 1)) else Pv (i + 1) H3)
    (hd : ∀ H, Pv kvs.length H → Qd H) : ∃ W : Nat → Nat → Hp → Prop, (∃ m, W 0 m (upd H1 D (L2.SetK P w D (fun _ => false) 0))) ∧ ∀ i m G, W i m G → ((Itk d o kvs).stop i G ∧ Qd G) ∨
    ((Itk d o kvs).go i G ∧ ∃ Nx : Hp → Prop, (∀ G', Nx G' → ∃ m', m' < m ∧ W (i + 1) m' G') ∧ ∀ x G', (Itk d o kvs).yld i G x G' → g x (wipe σ vs) G' fun σ2 G2 => wipe σ2 vs = wipe σ vs ∧ tt σ2 G2 fun b G3 => if b = true then TurnK P w D te σ2 G3 Nx else Nx G3) := by
  refine ⟨fun i m H => m = kvs.length - i ∧ i ≤ kvs.length ∧ Pv i H, ⟨_, rfl, Nat.zero_le _, h0⟩, ?_⟩
  rintro i m G ⟨rfl, le, p⟩
  have f := hl i G p
  by_cases lt : i < kvs.length
  · refine .inr ⟨⟨f, lt⟩, Pv (i + 1), fun G' p' => ⟨kvs.length - (i + 1), by omega, rfl, lt, p'⟩, fun x G' ⟨e, k, v, hk, ex⟩ => ?_⟩
    subst e ex
    exact hs i k v _ hk p
  · have e : i = kvs.length := by omega
    subst e
    exact .inl ⟨⟨f, Nat.le_refl _⟩, hd G p⟩
/-- a list comprehension over the keys of a locked dict -/
theorem lc_keys {d : Addr} {o : Obj} {kvs : List (Key × V)} {g : TG} {tt : TT} {te : TE} {vs : List Nat} {σ : L2.St} {H1 : Hp} {D : Addr} {Qd : Hp → Prop} (Pv : Nat → Hp → Prop) (h0 : Pv 0 (upd H1 D (.lst [])))
    (hl : ∀ i H, Pv i H → H d = some (.frz o (.dK kvs))) (hs : ∀ (i : Nat) k v H, kvs[i]? = some (k, v) → Pv i H → g (kV k) (wipe σ vs) H fun σ2 H2 => wipe σ2 vs = wipe σ vs ∧ tt σ2 H2 fun b H3 =>
      if b = true then te σ2 H3 fun y H4 => ∃ acc, H4 D = some (.lst acc) ∧ acc.length < sizeLine ∧ Pv (i + 1) (upd H4 D (.lst (acc ++ [y]))) else Pv (i + 1) H3)
    (hd : ∀ H, Pv kvs.length H → Qd H) : ∃ W : Nat → Nat → Hp → Prop, (∃ m, W 0 m (upd H1 D (.lst []))) ∧ ∀ i m G, W i m G → ((Itk d o kvs).stop i G ∧ Qd G) ∨
    ((Itk d o kvs).go i G ∧ ∃ Nx : Hp → Prop, (∀ G', Nx G' → ∃ m', m' < m ∧ W (i + 1) m' G') ∧ ∀ x G', (Itk d o kvs).yld i G x G' → g x (wipe σ vs) G' fun σ2 G2 => wipe σ2 vs = wipe σ vs ∧ tt σ2 G2 fun b G3 =>
      if b = true then te σ2 G3 fun y G4 => ∃ acc, G4 D = some (.lst acc) ∧ acc.length < sizeLine ∧ Nx (upd G4 D (.lst (acc ++ [y]))) else Nx G3) := by
  refine ⟨fun i m H => m = kvs.length - i ∧ i ≤ kvs.length ∧ Pv i H, ⟨_, rfl, Nat.zero_le _, h0⟩, ?_⟩
  rintro i m G ⟨rfl, le, p⟩
  have f := hl i G p
  by_cases lt : i < kvs.length
  · refine .inr ⟨⟨f, lt⟩, Pv (i + 1), fun G' p' => ⟨kvs.length - (i + 1), by omega, rfl, lt, p'⟩, fun x G' ⟨e, k, v, hk, ex⟩ => ?_⟩
    subst e ex
    exact hs i k v _ hk p
  · have e : i = kvs.length := by omega
    subst e
    exact .inl ⟨⟨f, Nat.le_refl _⟩, hd G p⟩
end Kx
/-! Defs with str.replace; defs that raise. -/
namespace Kx
open PySem PySem.Spec PyProof.Rows L2 CwR
section
variable {X : Cx} {o e : Expr} {to te : TE} {pos : Pos}
theorem pst_set {i : Nat} {x : Str} {pos' : Pos} (hN : X.N.Nodup) (hi : X.N[i]? = some x) (hx : Loc X.env.scope x) (he : PET X e te) (hs : swapsWith e (some (.Name x pos')) pos.line X.env = pure false := by rfl) (hf : X.fn x = true ∨ X.env.scope.names.lookup x = some .local := by first | exact .inl rfl | exact .inr rfl | assumption) :
    PST X (.Assign [.Name x pos'] e pos) (tAsg te (gName i)) := by
  intro pins s σ H D h0 I h
  refine wpAny_Assign_Name (thn (he pins s σ H _ h0 I h) fun v s1 ⟨y, H1, I1, r1, q1⟩ => ?_) hs
  exact store_ok I1 hN hi hx r1 (fun s2 I2 => ⟨_, H1, I2, q1⟩) hf
theorem pet_m0 {id : String} {name : Str} {apos pos : Pos} {r : V → List V → Hp → VK → Prop} (slot : Slot "str" name id) (ty : typeOf (.builtin id) = pure (.type "method_descriptor")) (rule : MtR X id r) (ho : PET X o to)
    (hbase : attributeBase o name X.env (eval o X.env) = eval o X.env := by rfl) (hline : (apos.endLine == pos.line) = true := by rfl) : PET X (.Call (.Attribute o name apos) [] [] pos) (tM0 r to) := by
  intro pins s σ H Q h0 I h
  refine PySem.Call_method0 hbase hline (thn (ho pins s σ H _ h0 I h) fun v s1 ⟨x, H1, I1, r1, q1⟩ => ?_)
  obtain ⟨⟨a, rfl⟩, q1⟩ := q1
  obtain ⟨t, rfl⟩ := _root_.id r1
  exact ⟨"str", _, F.plainAttrs_str, slot, ty, typeIs_str _ _ _, (fun _ e => nomatch e), Calls.callWith_builtin rfl (PySem.evalArgs_none (rule pins s1 σ H1 _ [] _ [] Q I1 r1 .nil q1))⟩
theorem pet_words {apos pos : Pos} (ho : PET X o to) (hbase : attributeBase o "split" X.env (eval o X.env) = eval o X.env := by rfl) (hline : (apos.endLine == pos.line) = true := by rfl) :
    PET X (.Call (.Attribute o "split" apos) [] [] pos) (tM0 (fun x xs H Q => ∃ a, x = .str a ∧ xs = [] ∧ a.length + 2 ≤ sizeLine ∧ rNewStrs (Txt.words a) H Q) to) :=
  pet_m0 F.slot_str_split F.type_str_split mt_words ho hbase hline
end
section
variable {P : Program} {w : World} {K : PySem.W.Frag} {mg : Str → Option Value} {base : Heap}
/-- a def in which a token is out from the beginning on (it has a parameter) -/
theorem okT {x qual : Str} {st : Stmt} {f : Addr} {fd : FuncData} {N ps : List Str} {k : Nat} {sp : Sp} (F : Fun K x qual st f fd) (S : FnScope N ps (defScope st)) (hnc : ∀ y ∈ (defScope st).names, y.2 ≠ .cell) (hps : 1 ≤ ps.length) (len : ∀ vs H Q E, sp vs H Q E → vs.length = ps.length)
    (hbody : ∀ (cdv : Value) (A : Around) (outer : List Env) (s : Shared) (H : Hp) (vs : List V) (Q : VK) (E : XK), Room k (A.deeper (envOfC qual (defScope st) s.heap.objs.size f cdv)) → sp vs H Q E →
      ∃ t, PSsT (cxOf CX0 P w K mg base N qual (defScope st) f cdv A outer s H E) (defBody st) t ∧ t { nx := fun _ H' => Q .non H', rt := Q } (start N vs) H) : FnOk P w K mg base CX0 (k + 1) f fd ps sp := by
  obtain ⟨oc, od, kV, doc, pm, an, cdv, ct, osl, rfl, lk, hcd⟩ := F.ex
  exact fn_ofT lk hcd S hnc hps len fun A outer s H vs Q E hr h => hbody cdv A outer s H vs Q E hr h
theorem exm_self {S : Addr} (h1 : PySem.W.subIn K (.ref S) (.type "BaseException") = some true) (h2 : PySem.W.isClsIn K S = true) (h3 : PySem.W.typeIn K (.ref S) = some (.type "type")) (h4 : PySem.W.subIn K (.ref S) (.ref S) = some true) :
    PySem.W.exmOne K (.ref S) (.ref S) = some true := by
  have e1 : (PySem.W.subIn K (.ref S) (.type "BaseException") == some true) = true := by rw [h1] <;> rfl
  have e2 : ((PySem.W.clsIn K S).isSome && PySem.W.typeIn K (.ref S) == some (.type "type")) = true := by
    have h2' : (PySem.W.clsIn K S).isSome = true := h2
    rw [h2', h3] <;> rfl
  show (if (PySem.W.subIn K (.ref S) (.type "BaseException") == some true) = true then (if ((PySem.W.clsIn K S).isSome && PySem.W.typeIn K (.ref S) == some (.type "type")) = true then PySem.W.subIn K (.ref S) (.ref S) else none) else none) = some true
  rw [if_pos e1, if_pos e2]
  exact h4
end
end Kx
/-! {None: v}: made, asked for its class, walked. -/
namespace Kx
open PySem PySem.Spec PyProof.Rows L2
/-- a dict with the one key None -/
def DNo (P : Program) (w : World) (a : Addr) : HO := .ext fun h => (a == sysModules) = false ∧ ∃ u, h.DictOf (noneKind P w) a [(none, u)]
theorem dno_ok {P : Program} {w : World} {H : Hp} {h : Heap} {a : Addr} {u : Value} (n : (a == sysModules) = false) (e : h.DictOf (noneKind P w) a [(none, u)]) : ObjOk P w H h a (DNo P w a) := by
  obtain ⟨o, es, ep, ho, r⟩ := id e
  refine ⟨⟨n, u, e⟩, ⟨o, ho⟩, fun h1 h2 ⟨n, u, o, es, ep, h, r⟩ k => ⟨n, u, o, es, ep, k _ h, r⟩⟩
theorem dno_ne {P : Program} {w : World} {a : Addr} {ps : Array Value} : DNo P w a ≠ .tbl ps := fun z => by
  unfold DNo at z
  cases z
def tDispN (P : Program) (w : World) (tv : TE) : TE := fun σ H Q => ∀ p, H p = none → tv σ (upd H p (.dK [])) fun _ H2 => H2 p = some (.dK []) ∧ Q (.ref p) (upd H2 p (DNo P w p))
theorem pe_dispN {X : Cx} {pos : Pos} {k v : Expr} {tv : TE} (hk : PE X k (tC .non)) (hv : PE X v tv) : PE X (.Dict [some k] [v] pos) (tDispN X.prog X.w tv) := by
  refine ⟨fun pins s σ H Q I q => ?_⟩
  have hn := I.hok.fresh (Nat.le_refl s.heap.objs.size)
  have I1 := I.laid (a := s.heap.objs.size) (o := .dK []) (h' := s.heap.push { cls := .type "dict", data := .dict #[] }) (t' := s.toks) (fun _ _ q => Heap.get?_push_of_some _ q) (Nat.le_refl _) (dk_empty s.heap I.big)
  refine wpAny_Dict_walk (knd := noneKind X.prog X.w) rfl rfl (by simp) (by simp) (pairTrees_cons_walk (thn (hk.run pins _ σ _ (fun x H1 => x = .non ∧ H1 = upd H s.heap.objs.size (.dK [])) I1 ⟨rfl, rfl⟩) ?_))
  rintro kv s1 ⟨x, H1, I2, rx, ex, eH⟩
  rw [eH] at I2
  subst ex
  obtain rfl : kv = Value.none := rx
  refine thn (hv.run pins s1 σ _ _ I2 (q _ hn)) ?_
  rintro vv s2 ⟨y, H2, I3, ry, hp, q2⟩
  refine pairTrees_nil_walk ?_
  obtain ⟨z, hd, vs0, r0, dd⟩ := dk_of I3.hok hp
  cases r0
  have dd0 : s2.heap.DictOf (noneKind X.prog X.w) s.heap.objs.size [] := by
    obtain ⟨o, es, ep, ho, hx, hdt, hk, hp, hnd⟩ := dd
    have e0 : es.toList = [] := by
      cases e : es.toList with
      | nil => rfl
      | cons a b => rw [e] at hp; cases hp
    refine ⟨o, es, ep, ho, hx, hdt, ?_, by rw [e0]; exact .nil, List.nodup_nil⟩
    intro e he
    have he : e ∈ es.toList := Array.mem_toList_iff.mpr he
    rw [e0] at he
    cases he
  refine ⟨[(none, vv)], ?_, dd0, fun h' dd' hs => ⟨.ref s.heap.objs.size, _, ?_, rfl, q2⟩⟩
  · exact ⟨rfl, rfl, trivial⟩
  have he : ∃ q, h'.get? s.heap.objs.size = some q := let ⟨q, _, _, hq, _⟩ := dd'; ⟨q, hq⟩
  exact d_write I3 (by rw [hp]; exact True.intro) hs he (dno_ok hd dd')
/-- its one key, None -/
def ItN (P : Program) (w : World) (d : Addr) (o : Obj) : It :=
  ⟨fun i H => H d = some (.frz o (DNo P w d)) ∧ i < 1, fun i H x H' => H' = H ∧ x = .non, fun i H => H d = some (.frz o (DNo P w d)) ∧ 1 ≤ i⟩
section
variable {P : Program} {w : World} {K : PySem.W.Frag} {tg : Expr} {d : Addr} {o : Obj} {es : Array DictEntry} {ep : Nat}
theorem Inv.frzN {X : Cx} {pins : List (Addr × Obj)} {σ : L2.St} {H : Hp} {s : Shared} (I : Inv X pins σ H s) (h : H d = some (.frz o (DNo X.prog X.w d))) :
    (d == sysModules) = false ∧ s.heap.get? d = some o ∧ o.ExactDict ∧ ∃ (es : Array DictEntry) (ep : Nat), o.data = .dict es ep ∧ es.size = 1 ∧ ∃ en : DictEntry, es[0]? = some en ∧ en.key = .none := by
  obtain ⟨hd, ⟨ns, u, o', es, ep, ho, hx, hdt, _, pr, _⟩, _⟩ := I.hok d _ h
  rw [hd] at ho
  cases ho
  cases e : es.toList with
  | nil => rw [e] at pr; cases pr
  | cons a l =>
    rw [e] at pr
    cases pr with
    | cons p1 p2 pt =>
      cases pt
      refine ⟨ns, hd, hx, es, ep, hdt, by rw [← Array.length_toList, e]; rfl, a, by rw [← Array.getElem?_toList, e]; rfl, ?_⟩
      exact nk_none p1
theorem turn_keysN (it : Addr) (hod : o.data = .dict es ep) : Turn P w K tg (ItN P w d o) [it] it (fun i h => h.IsKeyIter it d i 1 ep) where
  mem := by simp
  obj := fun i h st b hb => by
    have e : b = it := by simpa using hb
    subst e
    obtain ⟨oi, e, c, dd⟩ := st
    exact ⟨oi, e, fun v z => by rw [dd] at z; cases z⟩
  keep := fun i h h' st k => st.at fun oi e => k it (by simp) oi e
  item := by
    intro X hP hw hK hc i pins s σ H E I hf st hg
    subst hP hw hK
    obtain ⟨hd, hi⟩ := hg
    obtain rfl : i = 0 := by omega
    obtain ⟨f0, f1, f2, f3, f4, f5⟩ := hf it (by simp)
    obtain ⟨hs, hgd, hx, es', ep', hdt, hsz, en, hen, hkey⟩ := Inv.frzN I hd
    obtain ⟨rfl, rfl⟩ := dict_ep hod hdt
    refine next_key_item st hgd hdt hsz hen fun h' st' sb => ?_
    have I1 : Inv X pins σ H { s with heap := h' } := I.turned (t' := s.toks) (fun b ob hb e => (sb.2 b hb).trans e) f0 f1 f3 f4 f5
    obtain ⟨oi, e, c, dd⟩ := id st'
    exact ⟨en.key, rfl, go_of (s := { s with heap := h' }) e c dd (by decide) ⟨.non, H, I1, hkey, ⟨rfl, rfl⟩, st', fun b hb => (hf b hb).1⟩⟩
  done := by
    intro X hP hw hK hc i pins s σ H E I hf st hg
    subst hP hw hK
    obtain ⟨hd, hi⟩ := hg
    obtain ⟨f0, f1, f2, f3, f4, f5⟩ := hf it (by simp)
    obtain ⟨hs, hgd, hx, es', ep', hdt, hsz, en, hen, hkey⟩ := Inv.frzN I hd
    obtain ⟨rfl, rfl⟩ := dict_ep hod hdt
    exact next_key_end (I.ok.hd hc) st hgd hdt hsz hi fun h' eb => ⟨rfl, I.turned (t' := s.toks) (fun b ob hb e => eb b ob hb e) f0 f1 f3 f4 f5⟩
  self := fun A i s Q E st h => by
    refine wpAny_pyIter_slot st.typeIs F.slot_dict_keyiterator_iter (wpAny_call_entry F.slot_dict_keyiterator_iter st.typeIs F.entry_dict_keyiterator_iter ?_ (F.args_dict_keyiterator_iter_1 _))
    show wpAny _ _ (ret (.ref it)) _ _ s
    exact wpAny_pure ⟨_, rfl, "dict_keyiterator", _, st.typeIs, F.slot_dict_keyiterator_next.lookup, h⟩
theorem walk_keysN : Walk (ItN P w d o) 1 (fun H => H d = some (.frz o (DNo P w d))) (fun i H x H' => H' = H ∧ x = .non) :=
  ⟨fun _ _ hi q => ⟨q, hi⟩, fun _ q => ⟨q, Nat.le_refl _⟩, fun _ _ _ _ _ _ y => y⟩
end
/-- the keys of the locked dict, which may be the one with None -/
def iKeysN (P : Program) (w : World) (td : TE) : TI := fun σ H R => td σ H fun x H1 => ∃ d o, x = .ref d ∧ ((∃ kvs, H1 d = some (.frz o (.dK kvs)) ∧ R (Itk d o kvs) H1) ∨ (H1 d = some (.frz o (DNo P w d)) ∧ R (ItN P w d o) H1))
theorem pi_keysN {X : Cx} {tg e : Expr} {td : TE} (he : PE X e td) : PI X tg e (iKeysN X.prog X.w td) := by
  refine ⟨fun pins s σ H R I h => ?_⟩
  refine thn (he.run pins s σ H _ I h) fun u s1 ⟨x, H1, I1, rx, d, o, ex, q⟩ => ?_
  subst ex
  obtain rfl : u = Value.ref d := rx
  rcases q with ⟨kvs, hd, q⟩ | ⟨hd, q⟩
  · obtain ⟨hs, hgd, hx, es, ep, vs, hdt, hsz, kv, hm⟩ := I1.frzK hd
    refine iter_keys hs hgd hx hdt (pi_one (tk := s1.toks) I1 _ (turn_keys _ hdt) ⟨_, Heap.get?_push_size _ rfl, rfl, ?_⟩ q)
    rw [hsz] <;> rfl
  · obtain ⟨hs, hgd, hx, es, ep, hdt, hsz, en⟩ := Inv.frzN I1 hd
    refine iter_keys hs hgd hx hdt (pi_one (tk := s1.toks) I1 _ (turn_keysN _ hdt) ⟨_, Heap.get?_push_size _ rfl, rfl, ?_⟩ q)
    rw [hsz] <;> rfl
/-- isinstance(x, C), x data or such a dict -/
def rIsiN (P : Program) (w : World) (K : PySem.W.Frag) : List V → Hp → VK → Prop := fun xs H Q => rIsi K xs H Q ∨ ∃ (a : Addr) (c : V) (u : Value) (b : Bool), xs = [.ref a, c] ∧ H a = some (DNo P w a) ∧ ClsV c u ∧ PySem.W.kitOne K (.type "dict") u = some b ∧ Q (.bl b) H
theorem call_isiN {X : Cx} : CallR X (.builtin "isinstance") (rIsiN X.prog X.w X.K) := by
  intro pins s σ H xs us Q I r h
  rcases h with h | ⟨a, c, u, b, rfl, ha, k, e, q⟩
  · exact call_isi pins s σ H xs us Q I r h
  obtain ⟨u1, u2, rfl, r1, r2⟩ := vals2 r
  have e2 := k.eq r2
  subst e2
  cases r1
  obtain ⟨⟨_, _, o, es, ep, ho, hx, hdt, _⟩, _⟩ := I.hok a _ ha
  exact PySem.W.kia_one PySem.W.kitx_dict I.kIn ⟨o, ho, hx.1⟩ e (fun z => nomatch z) fun tk => ⟨.bl b, H, I.tok tk, rfl, q⟩
end Kx
/-! What the functions raise: terms, names. -/
namespace K14
open PySem PySem.Spec PyProof.Rows L2 Kx
section
variable {P : Program} {w : World} {K : PySem.W.Frag} {mg : Str → Option Value} {base : Heap}
def spCk (K : PySem.W.Frag) (C : Addr) : Sp := fun vs H Q E => ∃ (x : V) (d : PyData), vs = [x] ∧ Dz K H x d ∧ (termD d = true → ∀ H', Same H H' → Q .non H') ∧ (termD d = false → ∀ H', Same H H' → E (.ref C) none H')
theorem ok_ck (T : Tx K mg) : FnOk P w K mg base (L2.CX P w) 5 T.acheck_term T.dcheck_term ["value"] (spCk K T.CInvalidTerm) := by
  have nd := sc_check_term.nd
  have G := ok_term (P := P) (w := w) (base := base) T
  refine T.fcheck_term.okX sc_check_term (fun vs H Q E h => ?_) (fun cdv A outer s H vs Q E hr h => ?_)
  · obtain ⟨x, d, rfl, _⟩ := h
    rfl
  · obtain ⟨x, d, rfl, hx, q1, q0⟩ := h
    refine ⟨_, (pss_one (ps_if (pt_not (pt_val (pe_call G (hr.mono (by omega)) (by rfl) T.gis_term T.fis_term.kp T.nis_term .nil pass0 (pa_cons (pv 0) pa_nil)))) (pss_one (ps_raise rfl (takes_of rfl rfl rfl rfl) (pmk_own PySem.F.excBase_ValueError T.xInvalidTerm T.gInvalidTerm T.kInvalidTerm (raises_own T.bInvalidTerm T.tInvalidTerm) (by rfl)))) pss_nil)), ?_⟩
    refine ⟨_, rfl, x, d, rfl, hx, fun H' sm => ⟨_, rfl, ?_⟩⟩
    cases t : termD d with
    | false => exact iteT (q0 t H' sm)
    | true => exact iteF (q1 t H' sm)
end
/-- a list of texts that holds the same as l, each once -/
theorem once_len : ∀ (l L : List Str), L.Nodup → (∀ z, z ∈ L ↔ z ∈ l) → L.length ≤ l.length ∧ (L.length = l.length ↔ l.Nodup)
  | [], L, _, h => by
    have : L = [] := List.eq_nil_iff_forall_not_mem.mpr fun z hz => by simpa using (h z).mp hz
    subst this
    simp
  | a :: r, L, nd, h => by
    by_cases ar : a ∈ r
    · have e := once_len r L nd (fun z => by
        rw [h z, List.mem_cons]
        exact ⟨fun x => x.elim (fun e => by rw [e]; exact ar) id, .inr⟩)
      rw [List.length_cons]
      refine ⟨by omega, fun x => by omega, fun x => absurd ar (List.nodup_cons.mp x).1⟩
    · have aL : a ∈ L := (h a).mpr List.mem_cons_self
      have e := once_len r (L.erase a) (nd.erase a) (fun z => by
        rw [nd.mem_erase_iff, h z, List.mem_cons]
        constructor
        · rintro ⟨n, x | x⟩
          · exact absurd x n
          · exact x
        · exact fun x => ⟨fun y => ar (y ▸ x), .inr x⟩)
      rw [List.length_erase_of_mem aL] at e
      have pos : 0 < L.length := List.length_pos_of_mem aL
      rw [List.length_cons, List.nodup_cons]
      refine ⟨by omega, fun x => ⟨ar, e.2.mp (by omega)⟩, fun x => ?_⟩
      have := e.2.mpr x.2
      omega
theorem kit_dict : ∀ d : PyData, kitB (tyD d) "dict" = some (match d with | .dict _ => true | _ => false)
  | .none => (by decide +kernel : kitB "NoneType" "dict" = some false)
  | .bool _ => (by decide +kernel : kitB "bool" "dict" = some false)
  | .int _ => (by decide +kernel : kitB "int" "dict" = some false)
  | .str _ => (by decide +kernel : kitB "str" "dict" = some false)
  | .list _ => (by decide +kernel : kitB "list" "dict" = some false)
  | .tuple _ => (by decide +kernel : kitB "tuple" "dict" = some false)
  | .dict _ => (by decide +kernel : kitB "dict" "dict" = some true)
def isDict : PyData → Bool
  | .dict _ => true
  | _ => false
/-- an entry of a dict: its key, its value, the value as data -/
abbrev Ent := Key × V × PyData
def okEnt (e : Ent) : Bool := nameD (keyD e.1) && nameD e.2.2
def entsD (es : List Ent) : List (Key × V) := es.map fun e => (e.1, e.2.1)
/-- what is no dict from names to names -/
inductive BadNm (P : Program) (w : World) (K : PySem.W.Frag) (H : Hp) : V → Prop
  | dat {v : V} {d : PyData} : Dx K H v d → isDict d = false → BadNm P w K H v
  | dic {a : Addr} {es : List Ent} : H a = some (.dK (entsD es)) → (∀ e, e ∈ es → Dx K (OffS [a] H) e.2.1 e.2.2 ∧ (∀ y, keyD e.1 = .str y → y.length ≤ 1000) ∧ ∀ y, e.2.2 = .str y → y.length ≤ 1000) → (es.map fun e => e.1).Nodup → es.length ≤ 100 → es.all okEnt = false → BadNm P w K H (.ref a)
  | non {a : Addr} : H a = some (DNo P w a) → BadNm P w K H (.ref a)
theorem BadNm.up {P : Program} {w : World} {K : PySem.W.Frag} {H H' : Hp} {v : V} (h : BadNm P w K H v) (s : Same H H') : BadNm P w K H' v := by
  cases h with
  | dat a b => exact .dat (a.up s) b
  | dic a b c d e => exact .dic (s _ _ a) (fun x hx => ⟨(b x hx).1.up (OffS.same s), (b x hx).2⟩) c d e
  | non a => exact .non (s _ _ a)
theorem val_ents {k : Key} {v : V} {d : PyData} : ∀ {es : List Ent}, (es.map fun e => e.1).Nodup → (k, v, d) ∈ es → valV (entsD es) k = some v
  | p :: es, nd, h => by
    rw [List.map_cons, List.nodup_cons] at nd
    rcases List.mem_cons.mp h with e | h
    · subst e
      exact valV_pos rfl
    · have ne : p.1 ≠ k := fun z => nd.1 (by rw [z]; exact List.mem_map.mpr ⟨_, h, rfl⟩)
      rw [show entsD (p :: es) = (p.1, p.2.1) :: entsD es from rfl, valV_neg ne]
      exact val_ents nd.2 h
section
variable {P : Program} {w : World} {K : PySem.W.Frag} {mg : Str → Option Value} {base : Heap}
theorem look_mem {x y : Str} : ∀ {m : List (Str × Str)}, (m.map Prod.fst).Nodup → (x, y) ∈ m → look m x = some y
  | p :: m, nd, h => by
    rw [List.map_cons, List.nodup_cons] at nd
    rcases List.mem_cons.mp h with e | h
    · rw [← e, look, List.find?_cons_of_pos (by simp)]
      rfl
    · have ne : p.1 ≠ x := fun z => nd.1 (by rw [z]; exact List.mem_map.mpr ⟨_, h, rfl⟩)
      rw [look, List.find?_cons_of_neg (by simp [ne])]
      exact look_mem nd.2 h
theorem unlocked {a : Addr} {H G : Hp} {u : HO} (b : ButL [a] H G) (h : H a = some u) : Same H (upd G a u) := fun c o e => by
  by_cases z : c = a
  · rw [z, h] at e
    rw [z, upd_same]
    exact e
  · rw [upd_ne z]
    exact b c o e (by simp [z])
/-- the names that ms has, changed by m, stay apart -/
def Apart (m : List (Str × Str)) (l : List Str) : Prop := (l.map (nmOf m)).Nodup
def spRn (P : Program) (w : World) (K : PySem.W.Frag) (CN CO : Addr) : Sp := fun vs H Q E => ∃ (p : Addr) (v : V) (ms : List NK), vs = [.ref p, v] ∧ H p = some (.dK (dictOf ms)) ∧ ms.length ≤ 1000 ∧
  ((BadNm P w K H v ∧ ∀ H', Same H H' → E (.ref CN) none H') ∨ ∃ (a : Addr) (m : List (Str × Str)), v = .ref a ∧ p ≠ a ∧ H a = some (.dK (strD m)) ∧ (∀ x y, (x, y) ∈ m → isNm x = true ∧ isNm y = true) ∧ (m.map Prod.fst).Nodup ∧ m.length ≤ 1000 ∧ (Apart m (ms.map Prod.fst) → ∀ H', Same H H' → Q .non H') ∧ (¬ Apart m (ms.map Prod.fst) → ∀ H', Same H H' → E (.ref CO) none H'))
theorem ok_rn (T : Tx K mg) : FnOk P w K mg base (L2.CX P w) 2 T.acheck_renaming T.dcheck_renaming ["places", "names"] (spRn P w K T.CInvalidName T.CInvalidOperation) := by
  have nd := sc_check_renaming.nd
  have G := ok_name (P := P) (w := w) (base := base) T
  refine T.fcheck_renaming.okX sc_check_renaming (fun vs H Q E h => ?_) (fun cdv A outer s H vs Q E hr h => ?_)
  · obtain ⟨p, v, ms, rfl, _⟩ := h
    rfl
  · obtain ⟨p, v, ms, rfl, hp, lms, h⟩ := h
    have hu := hu_of hr
    refine ⟨_, (pss_cons (ps_if (PW.pt (pw_or (pt_not (pt_val (pe_callB call_isiN (by rfl) T.b_isinstance (by decide +kernel) (pa_cons (pv 1) (pa_cons (pe_bltn (v := .ty "dict") (by rfl) T.b_dict (by decide +kernel) rfl) pa_nil))))) (pw_or1 (pt_not (pt_val (pe_callB (cr_all rfl) (by rfl) T.b_all (by decide +kernel) (pa_cons (pe_lock (pe_lc (own := [("name", 2)]) (g := (gName 2)) (tt := tYes) (by rfl) nd (pi_keysN (pv 1)) (blkOk_by (own := [("name", 2)]) (N := N_check_renaming) (sc := defScope s_check_renaming) (by decide +kernel)) (fun _ _ _ _ _ => pg_name (i := 2) nd rfl (.inl rfl)) (fun _ _ _ _ _ => pts_nil) (fun _ _ _ _ _ => (pe_and (pe_call G (hr.mono (by omega)) (by rfl) T.gis_name T.fis_name.kp T.nis_name .nil pass0 (pa_cons (pv 2) pa_nil)) (pe_one (pe_call G (hr.mono (by omega)) (by rfl) T.gis_name T.fis_name.kp T.nis_name .nil pass0 (pa_cons (pe_dget hu (pv 1) (pv 2) (fun _ _ => rfl)) pa_nil))))))) pa_nil))))))) (pss_one (ps_raise rfl (takes_of rfl rfl rfl rfl) (pmk_own PySem.F.excBase_ValueError T.xInvalidName T.gInvalidName T.kInvalidName (raises_own T.bInvalidName T.tInvalidName) (by rfl)))) pss_nil)
      (pss_one (ps_if (pt_cmpR op_lt (pe_callB call_lenSK (by rfl) T.b_len (by decide +kernel) (pa_cons (pe_lock (pe_scK (own := [("name", 2)]) (g := (gName 2)) (tt := tYes) (by rfl) nd (pi_keys (pv 0)) (blkOk_by (own := [("name", 2)]) (N := N_check_renaming) (sc := defScope s_check_renaming) (by decide +kernel)) (fun _ _ _ _ _ => pg_name (i := 2) nd rfl (.inl rfl)) (fun _ _ _ _ _ => pts_nil) (fun _ _ _ _ _ => (pe_dget2 hu (pv 1) (pv 2) (pv 2) ⟨by rfl, by rfl, by rfl, by rfl⟩)))) pa_nil)) (pe_callB call_lenD (by rfl) T.b_len (by decide +kernel) (pa_cons (pv 0) pa_nil)) (nomark _)) (pss_one (ps_raise rfl (takes_of rfl rfl rfl rfl) (pmk_own PySem.F.excBase_ValueError T.xInvalidOperation T.gInvalidOperation T.kInvalidOperation (raises_own T.bInvalidOperation T.tInvalidOperation) (by rfl)))) pss_nil))), ?_⟩
    rcases h with ⟨bad, q⟩ | ⟨a, m, rfl, npa, ha, hm, ndm, lm, q1, q0⟩
    · cases bad with
      | @dat _ d hx nd2 =>
        refine ⟨v, rfl, .inl ⟨v, .ty "dict", _, _, _, rfl, .ty _, hx.ty, kit_ty (kit_dict d), _, rfl, ?_⟩⟩
        cases d with
        | dict _ => cases nd2
        | _ => exact iteT (iteT (q H (Same.refl H)))
      | @dic a es ha he nde l100 bad =>
        refine ⟨_, rfl, .inl ⟨_, .ty "dict", _, _, _, rfl, .ty _, .base (.dK ha), kit_ty (by decide +kernel : kitB "dict" "dict" = some true), _, rfl, iteF ?_⟩⟩
        refine ⟨a, .dK (entsD es), ha, trivial, fun od => ⟨_, rfl, a, od, rfl, .inl ⟨entsD es, upd_same, fun D nD => ?_⟩⟩⟩
        have eaL : (upd H a (.frz od (.dK (entsD es)))) a = some (.frz od (.dK (entsD es))) := upd_same
        have bL : ButL [a] H (upd H a (.frz od (.dK (entsD es)))) := ButL.refl.put (List.mem_singleton_self _)
        have daL : ∀ e, e ∈ es → Dx K (upd H a (.frz od (.dK (entsD es)))) e.2.1 e.2.2 := fun e m => (he e m).1.up fun b o hb => by
          obtain ⟨nb, hb⟩ := OffS.of hb
          rw [upd_ne (fun z => nb (by rw [z]; exact List.mem_singleton_self _))]
          exact hb
        generalize upd H a (.frz od (.dK (entsD es))) = L at eaL bL daL nD ⊢
        have naD : a ≠ D := ne_of_none eaL nD
        refine lc_keys (fun i G => Same L G ∧ G D = some (.lst (((es.take i).map okEnt).map V.bl))) ⟨same_put nD, upd_same⟩ (fun i G h => h.1 _ _ eaL) ?_ ?_
        · rintro i k v G hk ⟨sG, eD⟩
          rw [entsD, List.getElem?_map] at hk
          obtain ⟨⟨k2, v2, d2⟩, hxy, e⟩ := Option.map_eq_some_iff.mp hk
          cases e
          have mem := List.mem_of_getElem? hxy
          have lti : i < es.length := (List.getElem?_eq_some_iff.mp hxy).1
          obtain ⟨_, hk1, hk2⟩ := he _ mem
          have dv := daL _ mem
          refine ⟨rfl, (iteT (B := False) ?_ : if true = true then _ else False)⟩
          have fin : ∀ b : Bool, b = okEnt (k2, v2, d2) → ∃ acc, G D = some (.lst acc) ∧ acc.length < sizeLine ∧ Same L (upd G D (.lst (acc ++ [.bl b]))) ∧ (upd G D (.lst (acc ++ [.bl b]))) D = some (.lst (((es.take (i + 1)).map okEnt).map V.bl)) := by
            rintro b rfl
            refine ⟨_, eD, ?_, fun c o hc => ?_, ?_⟩
            · rw [List.length_map, List.length_map]
              exact small1000 (by rw [List.length_take]; omega)
            · rw [upd_ne (ne_of_none hc nD)]
              exact sG c o hc
            · rw [upd_same, List.take_add_one, hxy]
              simp
          refine ⟨_, rfl, _, keyD k2, rfl, ?_, fun z e => Nat.le_trans (hk1 z e) (by decide), _, rfl, ?_⟩
          · cases k2 with
            | inl i => exact .int i
            | inr x => exact .str x
          cases nk : nameD (keyD k2) with
          | false => exact iteF (fin false (by simp [okEnt, nk]))
          | true => exact iteT ⟨_, rfl, _, rfl, a, v2, rfl, .inl ⟨entsD es, k2, .inr ⟨od, sG _ _ eaL⟩, rfl, (val_ents nde mem).symm⟩, v2, d2, rfl, dv.up sG, fun z e => Nat.le_trans (hk2 z e) (by decide), fin _ (by simp [okEnt, nk])⟩
        · rintro G ⟨sG, eD⟩
          refine ⟨sG _ _ eaL, ?_⟩
          have s1 : Same H (upd G a (.dK (entsD es))) := unlocked (bL.trans (ButL.of sG)) ha
          have eD1 : (upd G a (.dK (entsD es))) D = some (.lst ((es.map okEnt).map V.bl)) := by
            rw [upd_ne naD.symm, eD, show (entsD es).length = es.length from List.length_map .., List.take_length]
          refine ⟨D, _, rfl, .inl (.inl eD1), _, rfl, ?_⟩
          rw [show (es.map okEnt).all id = false by simpa using bad]
          exact iteT (q _ s1)
      | @non a ha =>
        refine ⟨_, rfl, .inr ⟨a, .ty "dict", _, _, rfl, ha, .ty _, kit_ty (by decide +kernel : kitB "dict" "dict" = some true), _, rfl, iteF ?_⟩⟩
        refine ⟨a, DNo P w a, ha, trivial, fun od => ⟨_, rfl, a, od, rfl, .inr ⟨upd_same, fun D nD => ?_⟩⟩⟩
        have eaL : (upd H a (.frz od (DNo P w a))) a = some (.frz od (DNo P w a)) := upd_same
        have bL : ButL [a] H (upd H a (.frz od (DNo P w a))) := ButL.refl.put (List.mem_singleton_self _)
        generalize upd H a (.frz od (DNo P w a)) = L at eaL bL nD ⊢
        have naD : a ≠ D := ne_of_none eaL nD
        refine lc_it walk_keysN (fun i G => Same L G ∧ G D = some (.lst ((List.replicate i false).map V.bl))) ⟨same_put nD, upd_same⟩ (fun i G _ h => h.1 _ _ eaL) ?_ ?_
        · rintro i x G G' hi ⟨sG, eD⟩ ⟨rfl, rfl⟩
          refine ⟨rfl, (iteT (B := False) ?_ : if true = true then _ else False)⟩
          refine ⟨_, rfl, _, .none, rfl, .non, fun z e => (nomatch e), _, rfl, iteF ?_⟩
          refine ⟨_, eD, ?_, fun c o hc => ?_, ?_⟩
          · rw [List.length_map, List.length_replicate]
            exact small1000 (by have : i < 1 := hi; omega)
          · rw [upd_ne (ne_of_none hc nD)]
            exact sG c o hc
          · rw [upd_same, List.replicate_succ', List.map_append]
            rfl
        · rintro G ⟨sG, eD⟩
          refine ⟨sG _ _ eaL, ?_⟩
          have s1 : Same H (upd G a (DNo P w a)) := unlocked (bL.trans (ButL.of sG)) ha
          have eD1 : (upd G a (DNo P w a)) D = some (.lst ([false].map V.bl)) := by
            rw [upd_ne naD.symm, eD]
            rfl
          exact ⟨D, _, rfl, .inl (.inl eD1), _, rfl, iteT (q _ s1)⟩
    · refine ⟨_, rfl, .inl ⟨_, .ty "dict", _, _, _, rfl, .ty _, .base (.dK ha), kit_ty (by decide +kernel : kitB "dict" "dict" = some true), _, rfl, iteF ?_⟩⟩
      refine ⟨a, .dK (strD m), ha, trivial, fun od => ⟨_, rfl, a, od, rfl, .inl ⟨strD m, upd_same, fun D nD => ?_⟩⟩⟩
      have eaL : (upd H a (.frz od (.dK (strD m)))) a = some (.frz od (.dK (strD m))) := upd_same
      have bL : ButL [a] H (upd H a (.frz od (.dK (strD m)))) := ButL.refl.put (List.mem_singleton_self _)
      have epL : (upd H a (.frz od (.dK (strD m)))) p = some (.dK (dictOf ms)) := by rw [upd_ne npa]; exact hp
      generalize upd H a (.frz od (.dK (strD m))) = L at eaL bL epL nD ⊢
      have naD : a ≠ D := ne_of_none eaL nD
      refine lc_keys (fun i G => Same L G ∧ G D = some (.lst ((List.replicate i true).map V.bl))) ⟨same_put nD, upd_same⟩ (fun i G h => h.1 _ _ eaL) ?_ ?_
      · rintro i k v G hk ⟨sG, eD⟩
        rw [strD, List.getElem?_map] at hk
        obtain ⟨⟨x, y⟩, hxy, e⟩ := Option.map_eq_some_iff.mp hk
        cases e
        have mem := List.mem_of_getElem? hxy
        have lti : i < m.length := (List.getElem?_eq_some_iff.mp hxy).1
        obtain ⟨nx, ny⟩ := hm x y mem
        have short : ∀ {z : Str}, isNm z = true → z.length ≤ sizeLine := fun {z} h => by
          simp only [isNm, Bool.and_eq_true, decide_eq_true_eq] at h
          exact Nat.le_trans h.1.2 (by decide)
        refine ⟨rfl, (iteT (B := False) ?_ : if true = true then _ else False)⟩
        refine ⟨_, rfl, _, .str x, rfl, .str x, fun z e => by cases e; exact short nx, _, rfl, ?_⟩
        rw [show nameD (.str x) = true from nx]
        refine iteT ⟨_, rfl, _, rfl, a, .str y, rfl, .inl ⟨strD m, .inr x, .inr ⟨od, sG _ _ eaL⟩, rfl, ?_⟩, _, .str y, rfl, .str y, fun z e => by cases e; exact short ny, ?_⟩
        · rw [val_strD, look_mem ndm mem]
          rfl
        · refine ⟨_, eD, ?_, fun c o hc => ?_, ?_⟩
          · rw [List.length_map, List.length_replicate]
            exact small1000 (by omega)
          · rw [upd_ne (ne_of_none hc nD)]
            exact sG c o hc
          · rw [upd_same, show nameD (.str y) = true from ny, List.replicate_succ', List.map_append]
            rfl
      · rintro G ⟨sG, eD⟩
        refine ⟨sG _ _ eaL, ?_⟩
        have s1 : Same H (upd G a (.dK (strD m))) := unlocked (bL.trans (ButL.of sG)) ha
        have eD1 : (upd G a (.dK (strD m))) D = some (.lst ((List.replicate (strD m).length true).map V.bl)) := by
          rw [upd_ne naD.symm]
          exact eD
        generalize upd G a (.dK (strD m)) = H1 at s1 eD1 ⊢
        refine ⟨D, _, rfl, .inl (.inl eD1), _, rfl, ?_⟩
        rw [show (List.replicate (strD m).length true).all id = true by simp]
        refine iteF ?_
        -- the second test
        have hp1 := s1 _ _ hp
        have ha1 := s1 _ _ ha
        refine ⟨p, .dK (dictOf ms), hp1, trivial, fun od => ⟨_, rfl, p, od, rfl, .inl ⟨dictOf ms, upd_same, fun D2 nD2 => ?_⟩⟩⟩
        have epL : (upd H1 p (.frz od (.dK (dictOf ms)))) p = some (.frz od (.dK (dictOf ms))) := upd_same
        have bL2 : ButL [p] H1 (upd H1 p (.frz od (.dK (dictOf ms)))) := ButL.refl.put (List.mem_singleton_self _)
        have eaL2 : (upd H1 p (.frz od (.dK (dictOf ms)))) a = some (.dK (strD m)) := by rw [upd_ne npa.symm]; exact ha1
        generalize upd H1 p (.frz od (.dK (dictOf ms))) = L2' at epL bL2 eaL2 nD2 ⊢
        have npD : p ≠ D2 := ne_of_none epL nD2
        refine sck_keys (fun i G2 => Same L2' G2 ∧ ∃ (L : List Str) (S : Key → Bool), G2 D2 = some (L2.SetK P w D2 S L.length) ∧ L.Nodup ∧ (∀ k, S k = decide (∃ z, z ∈ L ∧ k = Sum.inr z)) ∧ L.length ≤ i ∧ ∀ z, z ∈ L ↔ z ∈ ((ms.take i).map Prod.fst).map (nmOf m))
          ⟨same_put nD2, [], fun _ => false, upd_same, List.nodup_nil, fun k => by simp, Nat.zero_le _, fun z => by simp⟩ (fun i G2 h => h.1 _ _ epL) ?_ ?_
        · rintro i k v G2 hk ⟨sG2, L, S, eD2, ndL, hS, lL, mL⟩
          rw [dictOf, List.getElem?_map] at hk
          obtain ⟨⟨x, n⟩, hxn, e⟩ := Option.map_eq_some_iff.mp hk
          cases e
          have lti : i < ms.length := (List.getElem?_eq_some_iff.mp hxn).1
          refine ⟨rfl, (iteT (B := False) ?_ : if true = true then _ else False)⟩
          refine ⟨_, rfl, a, rfl, .inl ⟨_, .inl (sG2 _ _ eaL2)⟩, _, rfl, _, rfl, _, .inl ⟨strD m, .inr x, .inl (sG2 _ _ eaL2), rfl, rfl⟩, .inr (nmOf m x), S, L.length, ?_, eD2, Nat.lt_of_le_of_lt (show L.length + 1 ≤ 1001 by omega) (by decide), fun c o hc => ?_, ?_⟩
          · rw [val_strD]
            exact look_getD m x
          · rw [upd_ne (ne_of_none hc nD2)]
            exact sG2 c o hc
          · have et : ((ms.take (i + 1)).map Prod.fst).map (nmOf m) = ((ms.take i).map Prod.fst).map (nmOf m) ++ [nmOf m x] := by
              rw [List.take_add_one, hxn]
              simp
            by_cases inL : nmOf m x ∈ L
            · have e1 : S (.inr (nmOf m x)) = true := by
                rw [hS]
                exact decide_eq_true ⟨_, inL, rfl⟩
              refine ⟨L, fun j => S j || decide (j = Sum.inr (nmOf m x)), by rw [upd_same, if_pos e1]; rfl, ndL, fun k => ?_, by omega, fun z => ?_⟩
              · show (S k || decide (k = Sum.inr (nmOf m x))) = _
                rw [hS]
                by_cases e : k = Sum.inr (nmOf m x)
                · rw [e]
                  simp [inL]
                · simp [e]
              · rw [et, List.mem_append, ← mL, List.mem_singleton]
                exact ⟨.inl, fun h => h.elim id fun e => by rw [e]; exact inL⟩
            · have e1 : ¬ S (.inr (nmOf m x)) = true := by
                rw [hS]
                simp [inL]
              refine ⟨L ++ [nmOf m x], fun j => S j || decide (j = Sum.inr (nmOf m x)), by rw [upd_same, if_neg e1, List.length_append]; rfl, ?_, fun k => ?_, by rw [List.length_append, List.length_singleton]; omega, fun z => ?_⟩
              · rw [List.nodup_append]
                refine ⟨ndL, by simp, fun c hc b hb => ?_⟩
                rw [List.mem_singleton.mp hb]
                rintro rfl
                exact inL hc
              · show (S k || decide (k = Sum.inr (nmOf m x))) = _
                rw [hS, ← Bool.decide_or, decide_eq_decide]
                constructor
                · rintro (⟨z, h1, h2⟩ | h)
                  · exact ⟨z, List.mem_append_left _ h1, h2⟩
                  · exact ⟨_, by simp, h⟩
                · rintro ⟨z, h1, h2⟩
                  rcases List.mem_append.mp h1 with h1 | h1
                  · exact .inl ⟨z, h1, h2⟩
                  · rw [List.mem_singleton.mp h1] at h2
                    exact .inr h2
              · rw [et, List.mem_append, List.mem_append, mL]
        · rintro G2 ⟨sG2, L, S, eD2, ndL, hS, lL, mL⟩
          refine ⟨sG2 _ _ epL, ?_⟩
          have s2 : Same H1 (upd G2 p (.dK (dictOf ms))) := unlocked (bL2.trans (ButL.of sG2)) hp1
          have eD3 : (upd G2 p (.dK (dictOf ms))) D2 = some (L2.SetK P w D2 S L.length) := by
            rw [upd_ne npD.symm]
            exact eD2
          generalize upd G2 p (.dK (dictOf ms)) = H2 at s2 eD3 ⊢
          have ld : (dictOf ms).length = ms.length := List.length_map ..
          rw [ld, List.take_length] at mL
          have fin := once_len ((ms.map Prod.fst).map (nmOf m)) L ndL mL
          rw [List.length_map, List.length_map] at fin
          refine ⟨D2, S, L.length, rfl, eD3, _, rfl, p, dictOf ms, rfl, s2 _ _ hp1, _, _, rfl, rfl, _, rfl, ?_⟩
          rw [ld]
          by_cases ap : Apart m (ms.map Prod.fst)
          · have e1 := fin.2.mpr ap
            rw [show decide ((L.length : Int) < (ms.length : Int)) = false from decide_eq_false (by omega)]
            exact iteF (q1 ap H2 (s1.trans s2))
          · have e1 : L.length ≠ ms.length := fun z => ap (fin.2.mp z)
            rw [show decide ((L.length : Int) < (ms.length : Int)) = true from decide_eq_true (by omega)]
            exact iteT (q0 ap H2 (s1.trans s2))
end
end K14
/-! sorted(d), d with tuples for keys; data < data. -/
namespace Kx
open PySem PySem.Spec PyProof.Rows L2
def tupD (k : List Key) : PyData := .tuple (k.map keyD)
theorem dx_keys {K : PySem.W.Frag} {H : Hp} : ∀ ks : List Key, DxAll K H (ks.map kV) (ks.map keyD)
  | [] => .nil
  | .inl i :: ks => .cons (.int i) (dx_keys ks)
  | .inr x :: ks => .cons (.str x) (dx_keys ks)
theorem depth_keys : ∀ ks : List Key, PyData.depthAll (ks.map keyD) ≤ 1
  | [] => by simp [PyData.depthAll]
  | .inl i :: ks => by
    have := depth_keys ks
    simp only [List.map_cons, PyData.depthAll, keyD, PyData.depth]
    omega
  | .inr x :: ks => by
    have := depth_keys ks
    simp only [List.map_cons, PyData.depthAll, keyD, PyData.depth]
    omega
theorem reads_keys {h : Heap} : ∀ (ks : List Key) (us : List Value) (as : List Addr), ReadsAll h us (ks.map keyD) as → as = []
  | [], _, _, r => by cases r; rfl
  | .inl i :: ks, _, _, r => by
    cases r with
    | cons a b =>
      cases a
      rw [reads_keys ks _ _ b]
      rfl
  | .inr x :: ks, _, _, r => by
    cases r with
    | cons a b =>
      cases a
      rw [reads_keys ks _ _ b]
      rfl
theorem readsAll_push {h : Heap} {o : Obj} : ∀ (ks : List Key) (us : List Value), ReadsAll h us (ks.map keyD) [] → ReadsAll (h.push o) us (ks.map keyD) []
  | [], _, r => by cases r; exact .nil
  | k :: ks, us, r => PyProof.Rows.ReadsAll.keeps (fun _ _ e => Heap.get?_push_of_some _ e) r
/-- its keys in their order, each its own tuple -/
abbrev KItem := Addr × List Key
def rSortKT (K : PySem.W.Frag) : List V → Hp → VK → Prop := fun xs H Q => ∃ (a : Addr) (kvs : List (List Key × V)), xs = [.ref a] ∧ H a = some (.dT kvs) ∧ PySem.W.AllAlike (kvs.map fun p => tupD p.1) ∧ (∀ p, p ∈ kvs → p.1 ≠ []) ∧
  ∀ (zs : List KItem) p, H p = none → zs.map Prod.snd = kvs.map Prod.fst → (∀ z, z ∈ zs → H z.1 = some (.tup (z.2.map kV))) → Q (.ref p) (upd H p (.lst ((zs.mergeSort (PySem.W.dataLe false fun z => tupD z.2)).map fun z => V.ref z.1)))
section
variable {X : Cx}
theorem cr_sortedKT (hc : X.calm = true) (hu : X.A.units + 64 < cLine) : CallR X (.builtin "sorted") (rSortKT X.K) := by
  intro pins s σ H xs us Q I r h
  obtain ⟨d, kvs, rfl, hd, al, nn, q⟩ := h
  obtain ⟨u, rfl, rx⟩ := r.one
  cases rx
  obtain ⟨z, hs, ks, pr, o, es, ep, ho, hx, hdt, he, hn⟩ := (show ObjOk X.prog X.w H s.heap d (.dT kvs) from I.hok d _ hd)
  have l1 : es.size = ks.length := size_of_entries he
  have l2 : kvs.length = ks.length := Paired.length pr
  refine Calls.call_function_entry PyProof.Rows.kind_sorted PyProof.Rows.plain_sorted PyProof.Rows.entry_sorted (PyProof.Rows.args_sorted1 _) ?_
  unfold Builtin.«sorted»
  refine wpAny_bind (m := checkCount "sorted" 1 1 _) (wpAny_pure ?_)
  refine wpAny_bind (PySem.W.kdu_collect (A := X.A.in1) (kdl_raw hs hx hdt) (I.ok.hd hc) ho (by omega) fun h' tk acc hk it => ?_)
  have ea : acc.toList = ks.map fun x => Value.ref x.2.1 := by
    have hl : acc.toList.length = ks.length := by rw [Array.length_toList, it.1]; exact l1
    apply List.ext_getElem?
    intro j
    rw [List.getElem?_map]
    cases hj : acc.toList[j]? with
    | none =>
      have h1 := List.getElem?_eq_none_iff.mp hj
      rw [List.getElem?_eq_none (by omega)]
      rfl
    | some v =>
      obtain ⟨en, hen, hv⟩ := it.2 j v (by rw [← Array.getElem?_toList]; exact hj)
      have qe := entry_at he j
      rw [hen] at qe
      cases hb : ks[j]? with
      | none =>
        rw [hb] at qe
        exact nomatch (show some en = none from qe)
      | some b =>
        rw [hb] at qe
        have e2 : en = entryOfKey (tupleKind (mixKind X.prog X.w)) b := Option.some.inj qe
        rw [hv, e2]
        rfl
  have I1 : Inv X pins σ H { s with heap := h', toks := tk } := I.kept hk
  have lz : ks.length ≤ sizeLine := by omega
  refine wpAny_bind (wpAny_newList ?_ (by rw [ea, List.length_map]; exact lz))
  have hoL : (h'.push (seqObj "list" acc.toList.toArray 0)).get? h'.objs.size = some (seqObj "list" acc.toList.toArray 0) := Heap.get?_push_size _ rfl
  show wpAny _ _ _ _ _ { s with heap := h'.push (seqObj "list" acc.toList.toArray 0), toks := tk }
  have I2 : Inv X pins σ H { s with heap := h'.push (seqObj "list" acc.toList.toArray 0), toks := tk } := I.kept fun b o e => Heap.get?_push_of_some _ (hk b o e)
  obtain ⟨zs, ezs⟩ : ∃ zs : List KItem, zs = ks.map fun x => ((x.2.1, x.1) : KItem) := ⟨_, rfl⟩
  have hz : ∀ z, z ∈ zs → H z.1 = some (.tup (z.2.map kV)) := by
    intro z hz
    rw [ezs] at hz
    obtain ⟨x, hx, rfl⟩ := List.mem_map.mp hz
    have : ∀ (kvs : List (List Key × V)) (ks : List (List Key × Addr × Value)), Paired (fun (p : List Key × V) (q : List Key × Addr × Value) => p.1 = q.1 ∧ H q.2.1 = some (.tup (p.1.map kV)) ∧ RelV p.2 q.2.2) kvs ks → ∀ x, x ∈ ks → H x.2.1 = some (.tup (x.1.map kV)) := by
      intro kvs ks h
      induction h with
      | nil => intro x hx; cases hx
      | cons r t ih =>
        intro x hx
        rcases List.mem_cons.mp hx with rfl | hx
        · rw [← r.1]
          exact r.2.1
        · exact ih x hx
    exact this kvs ks pr x hx
  have hzk : zs.map Prod.snd = kvs.map Prod.fst := by
    have : ∀ (kvs : List (List Key × V)) (ks : List (List Key × Addr × Value)), Paired (fun (p : List Key × V) (q : List Key × Addr × Value) => p.1 = q.1 ∧ H q.2.1 = some (.tup (p.1.map kV)) ∧ RelV p.2 q.2.2) kvs ks → (ks.map fun x => ((x.2.1, x.1) : KItem)).map Prod.snd = kvs.map Prod.fst := by
      intro kvs ks h
      induction h with
      | nil => rfl
      | cons r t ih =>
        rw [List.map_cons, List.map_cons, List.map_cons, ih, r.1]
    rw [ezs]
    exact this kvs ks pr
  have each : ∀ (zs : List KItem), (∀ z, z ∈ zs → H z.1 = some (.tup (z.2.map kV))) → PySem.W.EachIs (fun u (p : KItem) => u = Value.ref p.1 ∧ ∃ as, Reads (h'.push (seqObj "list" acc.toList.toArray 0)) u (tupD p.2) as ∧ h'.objs.size ∉ as) (zs.map fun z => Value.ref z.1) zs := by
    intro zs
    induction zs with
    | nil => intro _; exact .nil
    | cons p zs ih =>
      intro hz
      refine .cons ⟨rfl, ?_⟩ (ih fun q hq => hz q (List.mem_cons_of_mem _ hq))
      obtain ⟨as, rd, _⟩ := Dx.reads I1 (tupD p.2) (.ref p.1) (.ref p.1) (.tup (hz p List.mem_cons_self) (dx_keys p.2)) rfl
      cases rd with
      | tuple h1 h2 h3 h4 =>
        have z := reads_keys p.2 _ _ h4
        subst z
        exact ⟨[], Reads.tuple (Heap.get?_push_of_some _ h1) h2 h3 (readsAll_push p.2 _ h4), fun z => nomatch z⟩
  have e := each zs hz
  have ez : zs.map (fun z => Value.ref z.1) = acc.toList := by
    rw [ezs, ea, List.map_map]
    rfl
  rw [ez] at e
  have lzs : zs.length = ks.length := by rw [ezs]; exact List.length_map ..
  have alz : PySem.W.AllAlike (zs.map fun z => tupD z.2) := by
    have : zs.map (fun z => tupD z.2) = kvs.map fun p => tupD p.1 := by
      have e1 : (zs.map Prod.snd).map tupD = zs.map fun z => tupD z.2 := List.map_map ..
      have e2 : (kvs.map Prod.fst).map tupD = kvs.map fun p => tupD p.1 := List.map_map ..
      rw [← e1, ← e2, hzk]
    rw [this]
    exact al
  have so : PySem.W.Sortable (zs.map fun z => tupD z.2) := .inl fun dd hdd => by
    obtain ⟨z, hzz, rfl⟩ := List.mem_map.mp hdd
    have : z.2 ∈ kvs.map Prod.fst := by rw [← hzk]; exact List.mem_map.mpr ⟨z, hzz, rfl⟩
    obtain ⟨p, hp, e2⟩ := List.mem_map.mp this
    have nz : z.2 ≠ [] := by rw [← e2]; exact nn p hp
    cases hz2 : z.2 with
    | nil => exact absurd hz2 nz
    | cons a b => exact ⟨keyD a, b.map keyD, rfl⟩
  refine wpAny_bind (wpAny_holding (PySem.W.list_sort_data (enc := fun z : KItem => tupD z.2) hoL (e.mono fun _ _ h => h.1) (e.mono fun _ _ h => h.2) alz so (by rw [lzs]; exact lz) (fun b hb => ?_) fun out lo eo => ?_))
  · have := depth_keys b.2
    have e1 : (tupD b.2).depth ≤ 2 := by
      simp only [tupD, PyData.depth]
      omega
    show X.A.units + 1 + 1 + (tupD b.2).depth < cLine
    omega
  obtain ⟨e', he'⟩ := PyProof.Rows.sortedHeap_at (vs := acc.toList) (out := out.toArray) hoL
  have back : ∀ {out : List Value} {ys : List KItem}, PySem.W.EachIs (fun u (p : KItem) => u = Value.ref p.1) out ys → Vals (ys.map fun z => V.ref z.1) out := by
    intro out ys h
    induction h with
    | nil => exact .nil
    | cons h _ ih => exact .cons h ih
  have ln : ((zs.mergeSort (PySem.W.dataLe false fun z => tupD z.2)).map fun z => V.ref z.1).length ≤ sizeLine := by
    rw [List.length_map, List.length_mergeSort, lzs]
    exact lz
  refine wpAny_pure ⟨_, rfl, .ref h'.objs.size, upd H h'.objs.size (.lst ((zs.mergeSort (PySem.W.dataLe false fun z => tupD z.2)).map fun z => V.ref z.1)), I1.laid (t' := tk) (fun b u e => ?_) (Nat.le_refl _)
    (show ObjOk X.prog X.w _ _ _ (.lst _) from ⟨ln, out, e', back eo, he'⟩), rfl, q zs _ (I1.hok.fresh (Nat.le_refl _)) hzk hz⟩
  have hb : b < h'.objs.size := Heap.lt_size e
  rw [PyProof.Rows.sortedHeap_old (Nat.ne_of_lt hb) (by rw [size_push']; exact Nat.lt_succ_of_lt hb)]
  exact Heap.get?_push_of_some _ e
/-- data < data -/
def rLtD (K : PySem.W.Frag) : V → V → Hp → VK → Prop := fun x y H Q => ∃ da db, Dx K H x da ∧ Dx K H y db ∧ PySem.W.alike da db = true ∧ da ≠ .none ∧ da.depth ≤ 60 ∧ Q (.bl (PySem.W.dataLt da db)) H
theorem op_ltD (hu : X.A.units + 64 < cLine) : OpR X (compareOp .Lt) (rLtD X.K) := by
  intro pins s σ H x y u v Q I rx ry h
  obtain ⟨da, db, dx, dy, al, nn, dp, q⟩ := h
  obtain ⟨as, ra, _⟩ := Dx.reads I da x u dx rx
  obtain ⟨bs, rb, _⟩ := Dx.reads I db y v dy ry
  exact PySem.W.lt_data ra rb al nn (by omega) ⟨.bl _, H, I, rfl, q⟩
end
end Kx
/-! Couples. -/
namespace K14
open PySem PySem.Spec PyProof.Rows L2 Kx
def sidesOf : PyData → List PyData
  | .tuple [a, b] => [a, b]
  | _ => []
def coupleD : PyData → Bool
  | .tuple [_, _] => true
  | _ => false
def sidesD (ds : List PyData) : List PyData := ds.flatMap sidesOf
def couplesD (ds : List PyData) : Bool := ds.all coupleD && jointD (sidesD ds)
theorem couple_eq {d : PyData} (h : coupleD d = true) : ∃ a b, d = .tuple [a, b] := by
  match d, h with
  | .tuple [a, b], _ => exact ⟨a, b, rfl⟩
theorem dx_couple {K : PySem.W.Frag} {H : Hp} {v : V} {a b : PyData} (h : Dx K H v (.tuple [a, b])) : ∃ (p : Addr) (x y : V), v = .ref p ∧ H p = some (.tup [x, y]) ∧ Dx K H x a ∧ Dx K H y b := by
  cases h with
  | @tup p xs _ hp hx =>
    cases hx with
    | cons h1 h2 => cases h2 with
      | cons h2 h3 =>
        cases h3
        exact ⟨p, _, _, rfl, hp, h1, h2⟩
mutual
theorem wt_sz : ∀ d : PyData, wt d + 1 ≤ 3 * szD d
  | .none | .bool _ | .int _ | .str _ | .list _ | .dict _ => by simp [wt, szD]
  | .tuple ds => by
    have := wtA_sz ds
    simp only [wt, szD]
    omega
theorem wtA_sz : ∀ ds : List PyData, wtA ds ≤ 3 * szAll ds
  | [] => by simp [wtA, szAll]
  | d :: ds => by
    have := wt_sz d
    have := wtA_sz ds
    simp only [wtA, szAll]
    omega
end
theorem nm_len (d : PyData) (h : nameD d = true) : (nmC d).length ≤ 8 := by
  cases d with
  | str x =>
    have h : isNm x = true := h
    simp only [isNm, Bool.and_eq_true, decide_eq_true_eq] at h
    show x.cps.toList.length ≤ 8
    rw [Array.length_toList]
    exact h.1.2
  | _ => cases h
mutual
theorem tx_sz : ∀ d : PyData, formedD d = true → (tx d).length + 1 ≤ 11 * szD d
  | .none, h | .bool _, h | .int _, h | .str _, h | .list _, h | .dict _, h => by cases h
  | .tuple [], h => by cases h
  | .tuple (d :: []), h => by
    simp only [formedD, Bool.and_eq_true] at h
    have := nm_len d h.1.2
    simp only [tx, txA, List.append_nil, szD, szAll]
    have : szD d ≥ 1 := szD_pos d
    omega
  | .tuple (d :: e :: es), h => by
    simp only [formedD, formedAll, Bool.and_eq_true] at h
    have := nm_len d h.1.2
    have := tx_sz e h.2.1
    have := txM_sz es h.2.2
    have : szD d ≥ 1 := szD_pos d
    simp only [tx, txA, List.length_append, List.length_cons, List.length_nil, szD, szAll]
    omega
theorem txM_sz : ∀ ds : List PyData, formedAll ds = true → (txM ds).length ≤ 11 * szAll ds
  | [], _ => by simp [txM, szAll]
  | d :: ds, h => by
    simp only [formedAll, Bool.and_eq_true] at h
    have := tx_sz d h.1
    have := txM_sz ds h.2
    simp only [txM, List.length_append, List.length_cons, szAll]
    omega
end
/-- the text may be written -/
structure Wr (d : PyData) : Prop where
  f : formedD d = true
  w : wt d ≤ 100000
  t : (tx d).length ≤ 1000000
theorem wr_of {d : PyData} (h : formedD d = true) (z : szD d ≤ 10000) : Wr d := by
  have := wt_sz d
  have := tx_sz d h
  exact ⟨h, by omega, by omega⟩
section
variable {P : Program} {w : World} {K : PySem.W.Frag} {mg : Str → Option Value} {base : Heap}
def spKey (K : PySem.W.Frag) : Sp := fun vs H Q _ => ∃ (c : Addr) (x y : V) (a b : PyData), vs = [.ref c] ∧ H c = some (.tup [x, y]) ∧ Dx K H x a ∧ Dx K H y b ∧ Wr a ∧ Wr b ∧ ∀ p H', Same H H' → H p = none → H' p = some (.tup [.str (tS (tx a)), .str (tS (tx b))]) → Q (.ref p) H'
theorem ok_key (T : Tx K mg) : FnOk P w K mg base CX0 2 T.akey_of T.dkey_of ["couple"] (spKey K) := by
  have nd := sc_key_of.nd
  have G := ok_wr (P := P) (w := w) (base := base) T
  refine T.fkey_of.ok sc_key_of (fun vs H Q E h => ?_) (fun cdv A outer s H vs Q E hr h => ?_)
  · obtain ⟨c, x, y, a, b, rfl, _⟩ := h
    rfl
  obtain ⟨c, x, y, a, b, rfl, hc, hx, hy, wa, wb, q⟩ := h
  refine ⟨_, (pss_one (ps_ret (pe_tup (pa_cons (pe_call G (hr.mono (by omega)) (by rfl) T.gwritten T.fwritten.kp T.nwritten .nil pass0 (pa_cons (pe_ix ix_tup (pv 0) pe_int (fun _ _ => rfl)) pa_nil)) (pa_cons (pe_call G (hr.mono (by omega)) (by rfl) T.gwritten T.fwritten.kp T.nwritten .nil pass0 (pa_cons (pe_ix ix_tup (pv 0) pe_int (fun _ _ => rfl)) pa_nil)) pa_nil))))), ?_⟩
  refine ⟨_, rfl, c, _, 0, x, rfl, rfl, SqT.of hc, atI_nat (j := 0) rfl, x, a, rfl, hx, wa.f, wa.w, wa.t, fun H1 s1 => ?_⟩
  refine ⟨_, rfl, c, _, 1, y, rfl, rfl, SqT.of (s1 _ _ hc), atI_nat (j := 1) rfl, y, b, rfl, hy.up s1, wb.f, wb.w, wb.t, fun H2 s2 => ?_⟩
  refine ⟨by show 2 ≤ sizeLine; decide, fun p np => ?_⟩
  refine q p _ (s1.trans (s2.trans (same_put np))) ?_ upd_same
  cases e : H p with
  | none => rfl
  | some o =>
    rw [s2 _ _ (s1 _ _ e)] at np
    cases np
/-- the first side's text comes first -/
def ordD (a b : PyData) : Bool := decide (tx a < tx b)
def ordC : PyData → Bool
  | .tuple [a, b] => ordD a b
  | _ => false
def spOrd (K : PySem.W.Frag) : Sp := fun vs H Q _ => ∃ (c : Addr) (x y : V) (a b : PyData), vs = [.ref c] ∧ H c = some (.tup [x, y]) ∧ Dx K H x a ∧ Dx K H y b ∧ Wr a ∧ Wr b ∧ ∀ H', Same H H' → Q (.bl (ordD a b)) H'
theorem ok_ord (T : Tx K mg) : FnOk P w K mg base CX0 3 T.ais_ordered T.dis_ordered ["couple"] (spOrd K) := by
  have nd := sc_is_ordered.nd
  have G := ok_key (P := P) (w := w) (base := base) T
  refine T.fis_ordered.ok sc_is_ordered (fun vs H Q E h => ?_) (fun cdv A outer s H vs Q E hr h => ?_)
  · obtain ⟨c, x, y, a, b, rfl, _⟩ := h
    rfl
  obtain ⟨c, x, y, a, b, rfl, hc, hx, hy, wa, wb, q⟩ := h
  refine ⟨_, (pss_cons (ps_asg (pe_call G (hr.mono (by omega)) (by rfl) T.gkey_of T.fkey_of.kp T.nkey_of .nil pass0 (pa_cons (pv 0) pa_nil)) (pg_tup rfl (pgs_cons (pg_name (i := 1) nd rfl (.inl rfl)) (pgs_cons (pg_name (i := 2) nd rfl (.inl rfl)) pgs_nil))))
      (pss_one (ps_ret (pe_cmpR op_lt_str (pv 1) (pv 2) (nomark _))))), ?_⟩
  refine ⟨_, rfl, c, x, y, a, b, rfl, hc, hx, hy, wa, wb, fun p H1 s1 np hp => ?_⟩
  refine ⟨p, _, rfl, .inl (.inl hp), rfl, ?_⟩
  exact ⟨_, _, rfl, _, _, rfl, rfl, _, rfl, _, rfl, _, _, rfl, rfl, q H1 s1⟩
def spCp (K : PySem.W.Frag) : Sp := fun vs H Q _ => ∃ (x : V) (d : PyData), vs = [x] ∧ Dx K H x d ∧ Q (.bl (coupleD d)) H
theorem ok_cp (T : Tx K mg) : FnOk P w K mg base CX0 1 T.ais_couple T.dis_couple ["value"] (spCp K) := by
  have nd := sc_is_couple.nd
  refine T.fis_couple.ok sc_is_couple (fun vs H Q E h => ?_) (fun cdv A outer s H vs Q E hr h => ?_)
  · obtain ⟨x, d, rfl, _⟩ := h
    rfl
  obtain ⟨x, d, rfl, hx, q⟩ := h
  refine ⟨_, (pss_one (ps_ret (pe_and (pe_callB call_isi (by rfl) T.b_isinstance (by decide +kernel) (pa_cons (pv 0) (pa_cons (pe_bltn (v := .ty "tuple") (by rfl) T.b_tuple (by decide +kernel) rfl) pa_nil))) (pe_one (pe_cmpR op_eq (pe_callB call_len_seq (by rfl) T.b_len (by decide +kernel) (pa_cons (pv 0) pa_nil)) pe_int (nomark _)))))), ?_⟩
  refine ⟨_, rfl, x, .ty "tuple", _, _, _, rfl, .ty _, hx.ty, kit_ty (kit_tuple d), _, rfl, ?_⟩
  match d, hx, q with
  | .tuple ds, hx, q =>
    cases hx with
    | @tup p xs _ hp hs =>
    have ll := hs.length
    refine iteT ⟨_, rfl, p, xs, rfl, .inr (SqT.of hp), rfl, ?_⟩
    have e : coupleD (.tuple ds) = decide (V.int (xs.length : Int) = V.int 2) := by
      rw [ll]
      match ds with
      | [] => rfl
      | [_] => rfl
      | [_, _] => rfl
      | a :: b :: c :: r =>
        rw [show coupleD (.tuple (a :: b :: c :: r)) = false from rfl]
        refine (decide_eq_false fun z => ?_).symm
        have := V.int.inj z
        simp only [List.length_cons] at this
        omega
    rw [e] at q
    exact q
  | .none, _, q | .bool _, _, q | .int _, _, q | .str _, _, q | .list _, _, q | .dict _, _, q => exact iteF q
end
end K14
/-! The sides of couples. -/
namespace K14
open PySem PySem.Spec PyProof.Rows L2 Kx
theorem sidesD_take {ds : List PyData} {i : Nat} {d : PyData} (h : ds[i]? = some d) : sidesD (ds.take (i + 1)) = sidesD (ds.take i) ++ sidesOf d := by
  rw [List.take_add_one, h]
  simp [sidesD]
theorem sidesD_len : ∀ ds : List PyData, (sidesD ds).length ≤ 2 * ds.length
  | [] => by simp [sidesD]
  | d :: ds => by
    have := sidesD_len ds
    have h1 : (sidesOf d).length ≤ 2 := by
      match d with
      | .tuple [a, b] => exact Nat.le_refl 2
      | .tuple [] => simp [sidesOf]
      | .tuple [_] => simp [sidesOf]
      | .tuple (_ :: _ :: _ :: _) => simp [sidesOf]
      | .none | .bool _ | .int _ | .str _ | .list _ | .dict _ => simp [sidesOf]
    simp only [sidesD, List.flatMap_cons, List.length_append, List.length_cons] at *
    omega
section
variable {P : Program} {w : World} {K : PySem.W.Frag} {mg : Str → Option Value} {base : Heap}
def spSides (K : PySem.W.Frag) : Sp := fun vs H Q _ => ∃ (l : Addr) (xs : List V) (ds : List PyData), vs = [.ref l] ∧ SqL K H l xs ∧ DxAll K H xs ds ∧ ds.all coupleD = true ∧ ds.length ≤ 300 ∧
  ∀ p ys H', Same H H' → H' p = some (.lst ys) → DxAll K H' ys (sidesD ds) → Q (.ref p) H'
theorem ok_sides (T : Tx K mg) : FnOk P w K mg base CX0 1 T.asides_of T.dsides_of ["couples"] (spSides K) := by
  have nd := sc_sides_of.nd
  refine T.fsides_of.ok sc_sides_of (fun vs H Q E h => ?_) (fun cdv A outer s H vs Q E hr h => ?_)
  · obtain ⟨l, xs, ds, rfl, _⟩ := h
    rfl
  obtain ⟨l, xs, ds, rfl, hl, hx, hc, few, q⟩ := h
  refine ⟨_, (pss_one (ps_ret (pe_lc2 (own := [("couple", 1), ("term", 2)]) (vs1 := [2]) (g := (gName 1)) (g1 := (gName 2)) (wi1 := iTup K (tVar 1)) (tt := tYes) (tt1 := tYes) (by rfl) nd (pi_list (pv 0)) (blkOk_by (own := [("couple", 1), ("term", 2)]) (N := N_sides_of) (sc := defScope s_sides_of) (by decide +kernel)) (by decide) (fun _ _ _ _ _ => pg_name (i := 1) nd rfl (.inl rfl)) (fun _ _ _ _ _ => pts_nil) (fun _ _ _ _ _ => pi_tup (pv 1)) (fun _ _ _ _ _ => pg_name (i := 2) nd rfl (.inl rfl)) (fun _ _ _ _ _ => pts_nil) (fun _ _ _ _ _ => (pv 2))))), ?_⟩
  refine ⟨_, rfl, l, rfl, ⟨_, hl⟩, fun D nD => ?_⟩
  have lx := hx.length
  let Pv : Nat → Hp → Prop := fun i G => Same H G ∧ ∃ ys, G D = some (.lst ys) ∧ DxAll K H ys (sidesD (ds.take i))
  refine ⟨fun i m G => m = xs.length - i ∧ i ≤ xs.length ∧ Pv i G, ⟨xs.length, by simp, Nat.zero_le _, same_put nD, [], upd_same, .nil⟩, ?_⟩
  rintro i m G ⟨rfl, hi, sG, ys, eD, dy⟩
  by_cases hlt : i < xs.length
  · refine .inr ⟨⟨xs, xs[i], sG.seq hl, by simp [hlt]⟩, Pv (i + 1), fun H' p' => ⟨xs.length - (i + 1), by omega, rfl, hlt, p'⟩, fun x H' y => ?_⟩
    obtain ⟨e, y⟩ := y
    subst e
    have hxi := y xs (sG.seq hl)
    have gd := List.getElem?_eq_getElem (show i < ds.length by omega)
    obtain ⟨v, hv, dv⟩ := hx.get gd
    rw [hxi] at hv
    cases hv
    have cd : coupleD ds[i] = true := List.all_eq_true.mp hc _ (List.getElem_mem _)
    obtain ⟨a, b, eab⟩ := couple_eq cd
    rw [eab] at dv gd
    obtain ⟨p, u, v, rfl, hp, du, dv2⟩ := dx_couple dv
    refine ⟨rfl, (iteT (B := Pv (i + 1) H') ?_ : if true = true then _ else Pv (i + 1) H')⟩
    refine ⟨_, rfl, p, rfl, ⟨_, SqT.of (sG _ _ hp)⟩, ?_⟩
    let Nx : Nat → Hp → Prop := fun j G => j ≤ 2 ∧ Same H G ∧ ∃ ys, G D = some (.lst ys) ∧ DxAll K H ys (sidesD (ds.take i) ++ [a, b].take j)
    refine ⟨fun j k G2 => k = 2 - j ∧ Nx j G2, ⟨2, rfl, by omega, sG, ys, eD, by simpa using dy⟩, ?_⟩
    rintro j k G2 ⟨rfl, hj, sG2, ys2, eD2, dy2⟩
    have ll : ys2.length ≤ 602 := by
      rw [dy2.length, List.length_append, List.length_take]
      have := sidesD_len (ds.take i)
      rw [List.length_take] at this
      simp only [List.length_cons, List.length_nil]
      omega
    by_cases h2 : j < 2
    · refine .inr ⟨⟨[u, v], [u, v][j]'(by simpa using h2), SqT.of (sG2 _ _ hp), by simp [h2]⟩, Nx (j + 1), fun G3 h3 => ⟨2 - (j + 1), by omega, rfl, h3⟩, fun x G3 y => ?_⟩
      obtain ⟨e, y⟩ := y
      subst e
      have hxj := y [u, v] (SqT.of (sG2 _ _ hp))
      refine ⟨rfl, (iteT (B := Nx (j + 1) G3) ?_ : if true = true then _ else Nx (j + 1) G3)⟩
      refine ⟨_, rfl, ys2, eD2, small1000 (by omega), by omega, fun c o hc => ?_, ys2 ++ [x], upd_same, ?_⟩
      · rw [upd_ne (ne_of_none hc nD)]
        exact sG2 c o hc
      · have e01 : j = 0 ∨ j = 1 := by omega
        rcases e01 with rfl | rfl
        · cases hxj
          have e : sidesD (ds.take i) ++ [a, b].take (0 + 1) = (sidesD (ds.take i) ++ [a, b].take 0) ++ [a] := by simp
          rw [e]
          exact DxAll.append dy2 (.cons du .nil)
        · cases hxj
          have e : sidesD (ds.take i) ++ [a, b].take (1 + 1) = (sidesD (ds.take i) ++ [a, b].take 1) ++ [b] := by simp
          rw [e]
          exact DxAll.append dy2 (.cons dv2 .nil)
    · have e : j = 2 := by omega
      subst e
      refine .inl ⟨⟨[u, v], SqT.of (sG2 _ _ hp), Nat.le_refl _⟩, sG2, ys2, eD2, ?_⟩
      rw [sidesD_take gd]
      exact dy2
  · have e : i = xs.length := by omega
    subst e
    refine .inl ⟨⟨xs, sG.seq hl, Nat.le_refl _⟩, ?_⟩
    rw [lx, List.take_length] at dy
    exact q D ys G sG eD (dy.up sG)
theorem sides_short : ∀ ds : List PyData, shortAll ds = true → shortAll (sidesD ds) = true
  | [], _ => rfl
  | d :: ds, h => by
    rw [shortAll, Bool.and_eq_true] at h
    have ih := sides_short ds h.2
    rw [show sidesD (d :: ds) = sidesOf d ++ sidesD ds from rfl, shortAll_append, ih, Bool.and_true]
    match d, h.1 with
    | .tuple [a, b], h => exact h
    | .tuple [], h => rfl
    | .tuple [_], h => rfl
    | .tuple (_ :: _ :: _ :: _), h => rfl
    | .none, _ | .bool _, _ | .int _, _ | .str _, _ | .list _, _ | .dict _, _ => rfl
theorem sides_sz : ∀ ds : List PyData, szAll (sidesD ds) ≤ szAll ds
  | [] => Nat.le_refl _
  | d :: ds => by
    have ih := sides_sz ds
    rw [show sidesD (d :: ds) = sidesOf d ++ sidesD ds from rfl, szAll_append, szAll]
    have : szAll (sidesOf d) ≤ szD d := by
      match d with
      | .tuple [a, b] => simp only [sidesOf, szD]; omega
      | .tuple [] => simp [sidesOf, szAll]
      | .tuple [_] => simp [sidesOf, szAll]
      | .tuple (_ :: _ :: _ :: _) => simp [sidesOf, szAll]
      | .none | .bool _ | .int _ | .str _ | .list _ | .dict _ => simp [sidesOf, szAll]
    omega
def spAre (K : PySem.W.Frag) : Sp := fun vs H Q _ => ∃ (l : Addr) (xs : List V) (ds : List PyData), vs = [.ref l] ∧ SqL K H l xs ∧ DxAll K H xs ds ∧ shortAll ds = true ∧ szAll ds ≤ 100000 ∧ ds.length ≤ 300 ∧
  ∀ H', Same H H' → Q (.bl (couplesD ds)) H'
theorem ok_are (T : Tx K mg) : FnOk P w K mg base CX0 4 T.aare_couples T.dare_couples ["values"] (spAre K) := by
  have nd := sc_are_couples.nd
  have G1 := ok_cp (P := P) (w := w) (base := base) T
  have G2 := ok_sides (P := P) (w := w) (base := base) T
  have G3 := ok_jointL (P := P) (w := w) (base := base) T
  refine T.fare_couples.ok sc_are_couples (fun vs H Q E h => ?_) (fun cdv A outer s H vs Q E hr h => ?_)
  · obtain ⟨l, xs, ds, rfl, _⟩ := h
    rfl
  obtain ⟨l, xs, ds, rfl, hl, hx, sh, sz, few, q⟩ := h
  refine ⟨_, (pss_cons (ps_if (pt_not (pt_val (pe_callB (cr_all rfl) (by rfl) T.b_all (by decide +kernel) (pa_cons (pe_lc (own := [("value", 1)]) (g := (gName 1)) (tt := tYes) (by rfl) nd (pi_list (pv 0)) (blkOk_by (own := [("value", 1)]) (N := N_are_couples) (sc := defScope s_are_couples) (by decide +kernel)) (fun _ _ _ _ _ => pg_name (i := 1) nd rfl (.inl rfl)) (fun _ _ _ _ _ => pts_nil) (fun _ _ _ _ _ => (pe_call G1 (hr.mono (by omega)) (by rfl) T.gis_couple T.fis_couple.kp T.nis_couple .nil pass0 (pa_cons (pv 1) pa_nil)))) pa_nil)))) (pss_one (ps_ret pe_bl)) pss_nil)
      (pss_one (ps_ret (pe_cmpR op_notN (pe_call G3 (hr.mono (by omega)) (by rfl) T.gjoint_places T.fjoint_places.kp T.njoint_places .nil pass0 (pa_cons (pe_call G2 (hr.mono (by omega)) (by rfl) T.gsides_of T.fsides_of.kp T.nsides_of .nil pass0 (pa_cons (pv 0) pa_nil)) pa_nil)) pe_non (nomark _))))), ?_⟩
  have lx := hx.length
  refine ⟨_, rfl, l, rfl, ⟨_, hl⟩, fun D nD => ?_⟩
  refine lc_list (K := K) (a := l) (xs := xs) (fun i G => Same H G ∧ G D = some (.lst (((ds.take i).map coupleD).map V.bl))) ⟨same_put nD, upd_same⟩ (fun i G _ h => h.1.seq hl) ?_ ?_
  · rintro i x G hi ⟨sG, eD⟩
    have lti : i < ds.length := by rw [← lx]; exact (List.getElem?_eq_some_iff.mp hi).1
    have gd := List.getElem?_eq_getElem lti
    obtain ⟨v, hv, dv⟩ := hx.get gd
    rw [hi] at hv
    cases hv
    refine ⟨rfl, (iteT (B := False) ?_ : if true = true then _ else False)⟩
    refine ⟨_, rfl, x, ds[i], rfl, dv.up sG, _, eD, ?_, fun c o hc => ?_, ?_⟩
    · rw [List.length_map, List.length_map, List.length_take]
      exact small1000 (by omega)
    · rw [upd_ne (ne_of_none hc nD)]
      exact sG c o hc
    · rw [upd_same, List.take_add_one, gd, List.map_append, List.map_append]
      rfl
  · rintro G ⟨sG, eD⟩
    rw [lx, List.take_length] at eD
    refine ⟨D, _, rfl, .inl (.inl eD), _, rfl, ?_⟩
    have eall : ((ds.map coupleD).all id) = ds.all coupleD := by simp
    rw [eall]
    cases hc : ds.all coupleD with
    | false =>
      have e : couplesD ds = false := by simp [couplesD, hc]
      have q := q G sG
      rw [e] at q
      exact iteT q
    | true =>
      refine iteF ?_
      refine ⟨_, rfl, l, xs, ds, rfl, sG.seq hl, hx.up sG, hc, few, fun p ys H1 s1 hp dy => ?_⟩
      refine ⟨p, ys, sidesD ds, rfl, SqL.of hp, dy, sides_short ds sh, Nat.le_trans (sides_sz ds) sz, fun v H2 s2 h1 h2 => ?_⟩
      have q := q H2 (sG.trans (s1.trans s2))
      have e : couplesD ds = jointD (sidesD ds) := by simp [couplesD, hc]
      rw [e] at q
      cases j : jointD (sidesD ds) with
      | false =>
        rw [j] at q
        cases h1 j
        exact ⟨rfl, q⟩
      | true =>
        rw [j] at q
        obtain ⟨p, ms, rfl, _⟩ := h2 j
        exact ⟨rfl, q⟩
def isPairD (d : PyData) : Bool := couplesD [d] && ordC d
theorem dx_nil {K : PySem.W.Frag} {H : Hp} {v : V} {d : PyData} (h : Dx K H v d) : d = .none ↔ v = .non := by
  constructor
  · rintro rfl
    cases h
    rfl
  · rintro rfl
    cases h
    rfl
/-- the sides of couples that hang together may be written -/
theorem couples_wr {ds : List PyData} (h : couplesD ds = true) (z : szAll ds ≤ 10000) : ∀ d, d ∈ ds → ∃ a b, d = .tuple [a, b] ∧ Wr a ∧ Wr b := fun d hd => by
  simp only [couplesD, Bool.and_eq_true] at h
  obtain ⟨a, b, rfl⟩ := couple_eq (List.all_eq_true.mp h.1 d hd)
  have hj : formedAll (sidesD ds) = true := by
    have := h.2
    simp only [jointD, Bool.and_eq_true] at this
    exact this.1
  have fm : ∀ (l : List PyData), formedAll l = true → ∀ e, e ∈ l → formedD e = true := by
    intro l
    induction l with
    | nil => intro _ e he; cases he
    | cons x l ih =>
      intro hl e he
      rw [formedAll, Bool.and_eq_true] at hl
      rcases List.mem_cons.mp he with rfl | he
      · exact hl.1
      · exact ih hl.2 e he
  have sm : ∀ (l : List PyData) e, e ∈ l → szD e ≤ szAll l := by
    intro l
    induction l with
    | nil => intro e he; cases he
    | cons x l ih =>
      intro e he
      rw [szAll]
      rcases List.mem_cons.mp he with rfl | he
      · omega
      · have := ih e he
        omega
  have ma : a ∈ sidesD ds := List.mem_flatMap.mpr ⟨_, hd, by simp [sidesOf]⟩
  have mb : b ∈ sidesD ds := List.mem_flatMap.mpr ⟨_, hd, by simp [sidesOf]⟩
  have z2 := sides_sz ds
  exact ⟨a, b, rfl, wr_of (fm _ hj a ma) (by have := sm _ a ma; omega), wr_of (fm _ hj b mb) (by have := sm _ b mb; omega)⟩
def spPair (K : PySem.W.Frag) : Sp := fun vs H Q _ => ∃ (x : V) (d : PyData), vs = [x] ∧ Dx K H x d ∧ shortD d = true ∧ szD d ≤ 10000 ∧ ∀ H', Same H H' → Q (.bl (isPairD d)) H'
theorem ok_pair (T : Tx K mg) : FnOk P w K mg base CX0 5 T.ais_pair T.dis_pair ["value"] (spPair K) := by
  have nd := sc_is_pair.nd
  have G1 := ok_are (P := P) (w := w) (base := base) T
  have G2 := ok_ord (P := P) (w := w) (base := base) T
  refine T.fis_pair.ok sc_is_pair (fun vs H Q E h => ?_) (fun cdv A outer s H vs Q E hr h => ?_)
  · obtain ⟨x, d, rfl, _⟩ := h
    rfl
  obtain ⟨x, d, rfl, hx, sh, sz, q⟩ := h
  refine ⟨_, (pss_one (ps_ret (pe_and (pe_call G1 (hr.mono (by omega)) (by rfl) T.gare_couples T.fare_couples.kp T.nare_couples .nil pass0 (pa_cons (pe_lst (pa_cons (pv 0) pa_nil)) pa_nil)) (pe_one (pe_call G2 (hr.mono (by omega)) (by rfl) T.gis_ordered T.fis_ordered.kp T.nis_ordered .nil pass0 (pa_cons (pv 0) pa_nil)))))), ?_⟩
  refine ⟨_, rfl, by show 1 ≤ sizeLine; decide, fun l nl => ?_⟩
  refine ⟨l, [x], [d], rfl, SqL.of upd_same, .cons (hx.up (same_put nl)) .nil, by simp [shortAll, sh], by simp only [szAll]; omega, by simp, fun H1 s1 => ?_⟩
  have s2 := (same_put (o := .lst [x]) nl).trans s1
  have q := q
  unfold isPairD at q
  cases hc : couplesD [d] with
  | false =>
    rw [hc] at q
    exact ⟨_, rfl, iteF (q H1 s2)⟩
  | true =>
    obtain ⟨a, b, rfl, wa, wb⟩ := couples_wr hc (by simp only [szAll]; omega) d (List.mem_singleton_self _)
    obtain ⟨p, u, v, rfl, hp, du, dv⟩ := dx_couple hx
    rw [hc] at q
    refine ⟨_, rfl, iteT ?_⟩
    refine ⟨_, rfl, p, u, v, a, b, rfl, s2 _ _ hp, du.up s2, dv.up s2, wa, wb, fun H2 s3 => q H2 (s2.trans s3)⟩
end
end K14
/-! Facts, as they are judged. -/
namespace K14
open PySem PySem.Spec PyProof.Rows L2 Kx StX
/-- the conclusion, where there is one -/
def endOf : PyData → List PyData
  | .none => []
  | e => [e]
theorem endOf_some {e : PyData} (h : e ≠ .none) : endOf e = [e] := by
  cases e <;> first | exact absurd rfl h | rfl
section
variable {P : Program} {w : World} {K : PySem.W.Frag} {mg : Str → Option Value} {base : Heap}
def spPi (K : PySem.W.Frag) : Sp := fun vs H Q _ => ∃ (f t : Addr) (us : List V) (v : V) (ps : List PyData) (e : PyData), vs = [.ref f] ∧ H f = some (.tup [.ref t, v]) ∧ H t = some (.tup us) ∧ DxAll K H us ps ∧ Dx K H v e ∧ ps.length ≤ 299 ∧
  ∀ p ys H', Same H H' → H p = none → H' p = some (.lst ys) → DxAll K H' ys (ps ++ endOf e) → Q (.ref p) H'
theorem ok_pi (T : Tx K mg) : FnOk P w K mg base CX0 1 T.apairs_in T.dpairs_in ["fact"] (spPi K) := by
  have nd := sc_pairs_in.nd
  refine T.fpairs_in.ok sc_pairs_in (fun vs H Q E h => ?_) (fun cdv A outer s H vs Q E hr h => ?_)
  · obtain ⟨f, t, us, v, ps, e, rfl, _⟩ := h
    rfl
  obtain ⟨f, t, us, v, ps, e, rfl, hf, ht, hu, he, few, q⟩ := h
  refine ⟨_, (pss_one (ps_ret (pe_ifExp (pt_cmpR op_isN (pe_ix ix_tup (pv 0) pe_int (fun _ _ => rfl)) pe_non (nomark _)) (pe_callTy call_list_of (by rfl) T.b_list (by decide +kernel) (pa_cons (pe_ix ix_tup (pv 0) pe_int (fun _ _ => rfl)) pa_nil)) (pe_lst (pa_star (pe_ix ix_tup (pv 0) pe_int (fun _ _ => rfl)) (pa_cons (pe_ix ix_tup (pv 0) pe_int (fun _ _ => rfl)) pa_nil)))))), ?_⟩
  refine ⟨_, rfl, f, _, 1, v, rfl, rfl, SqT.of hf, atI_nat (j := 1) rfl, rfl, _, rfl, ?_⟩
  by_cases ev : v = .non
  · have ee := (dx_nil he).mpr ev
    subst ev ee
    refine iteT ⟨_, rfl, f, _, 0, .ref t, rfl, rfl, SqT.of hf, atI_nat (j := 0) rfl, t, us, rfl, .inr (SqT.of ht), fun p np => ?_⟩
    exact q p us _ (same_put np) np upd_same (by rw [show endOf .none = [] from rfl, List.append_nil]; exact hu.up (same_put np))
  · have ee : e ≠ .none := fun z => ev ((dx_nil he).mp z)
    rw [decide_eq_false ev]
    refine iteF ⟨_, rfl, f, _, 0, .ref t, rfl, rfl, SqT.of hf, atI_nat (j := 0) rfl, t, us, rfl, .inl (SqT.of ht), ?_⟩
    refine ⟨_, rfl, f, _, 1, v, rfl, rfl, SqT.of hf, atI_nat (j := 1) rfl, ?_, fun p np => ?_⟩
    · have := hu.length
      rw [List.length_append]
      exact Nat.le_of_lt (small1000 (by show us.length + 1 ≤ 1000; omega))
    · exact q p _ _ (same_put np) np upd_same (by rw [endOf_some ee]; exact (DxAll.append hu (.cons he .nil)).up (same_put np))
/-- a couple's texts -/
def keyC : PyData → PyData
  | .tuple [a, b] => .tuple [.str (tS (tx a)), .str (tS (tx b))]
  | d => d
def chainD (ks : List PyData) : Bool := (ks.zip ks.tail).all fun p => PySem.W.dataLt p.1 p.2
def factB : PyData → PyData → Bool
  | .tuple ps, e => couplesD (ps ++ endOf e) && ((ps ++ endOf e).all ordC && chainD (ps.map keyC))
  | _, _ => false
def factD : PyData → Bool
  | .tuple [a, e] => factB a e
  | _ => false
theorem pure_keys : ∀ {ps : List PyData}, (∀ d, d ∈ ps → ∃ a b, d = .tuple [a, b] ∧ Wr a ∧ Wr b) → pureAll (ps.map keyC) = true
  | [], _ => rfl
  | d :: ps, h => by
    obtain ⟨a, b, rfl, _⟩ := h d List.mem_cons_self
    rw [List.map_cons, pureAll, pure_keys fun d hd => h d (List.mem_cons_of_mem _ hd)]
    rfl
def spFact (K : PySem.W.Frag) : Sp := fun vs H Q _ => ∃ (x : V) (d : PyData), vs = [x] ∧ Dx K H x d ∧ shortD d = true ∧ szD d ≤ 10000 ∧ (∀ ps e, d = .tuple [.tuple ps, e] → ps.length ≤ 100) ∧ ∀ H', Same H H' → Q (.bl (factD d)) H'
theorem ok_fact (T : Tx K mg) : FnOk P w K mg base CX0 5 T.ais_fact T.dis_fact ["value"] (spFact K) := by
  have nd := sc_is_fact.nd
  have G1 := ok_cp (P := P) (w := w) (base := base) T
  have G2 := ok_pi (P := P) (w := w) (base := base) T
  have G3 := ok_are (P := P) (w := w) (base := base) T
  have G4 := ok_ord (P := P) (w := w) (base := base) T
  have G5 := ok_key (P := P) (w := w) (base := base) T
  refine T.fis_fact.ok sc_is_fact (fun vs H Q E h => ?_) (fun cdv A outer s H vs Q E hr h => ?_)
  · obtain ⟨x, d, rfl, _⟩ := h
    rfl
  obtain ⟨x, d, rfl, hx, sh, sz, few, q⟩ := h
  refine ⟨_, (pss_cons (ps_if (PW.pt (pw_or (pt_not (pt_val (pe_call G1 (hr.mono (by omega)) (by rfl) T.gis_couple T.fis_couple.kp T.nis_couple .nil pass0 (pa_cons (pv 0) pa_nil)))) (pw_or1 (pt_not (pt_val (pe_callB call_isi (by rfl) T.b_isinstance (by decide +kernel) (pa_cons (pe_ix ix_tup (pv 0) pe_int (fun _ _ => rfl)) (pa_cons (pe_bltn (v := .ty "tuple") (by rfl) T.b_tuple (by decide +kernel) rfl) pa_nil)))))))) (pss_one (ps_ret pe_bl)) pss_nil)
      (pss_cons (ps_set (i := 1) nd rfl (.inl rfl) (pe_call G2 (hr.mono (by omega)) (by rfl) T.gpairs_in T.fpairs_in.kp T.npairs_in .nil pass0 (pa_cons (pv 0) pa_nil)))
      (pss_cons (ps_if (PW.pt (pw_or (pt_not (pt_val (pe_call G3 (hr.mono (by omega)) (by rfl) T.gare_couples T.fare_couples.kp T.nare_couples .nil pass0 (pa_cons (pv 1) pa_nil)))) (pw_or1 (pt_not (pt_val (pe_callB (cr_all rfl) (by rfl) T.b_all (by decide +kernel) (pa_cons (pe_lc (own := [("pair", 3)]) (g := (gName 3)) (tt := tYes) (by rfl) nd (pi_list (pv 1)) (blkOk_by (own := [("pair", 3)]) (N := N_is_fact) (sc := defScope s_is_fact) (by decide +kernel)) (fun _ _ _ _ _ => pg_name (i := 3) nd rfl (.inl rfl)) (fun _ _ _ _ _ => pts_nil) (fun _ _ _ _ _ => (pe_call G4 (hr.mono (by omega)) (by rfl) T.gis_ordered T.fis_ordered.kp T.nis_ordered .nil pass0 (pa_cons (pv 3) pa_nil)))) pa_nil))))))) (pss_one (ps_ret pe_bl)) pss_nil)
      (pss_cons (ps_setLc (i := 2) (own := [("pair", 3)]) (g := (gName 3)) (tt := tYes) (by rfl) nd rfl rfl (sw_true rfl rfl rfl (by decide +kernel)) (pi_tup (pe_ix ix_tup (pv 0) pe_int (fun _ _ => rfl))) (blkOk_by (own := [("pair", 3)]) (N := N_is_fact) (sc := defScope s_is_fact) (by decide +kernel)) (fun _ _ _ _ _ => pg_name (i := 3) nd rfl (.inl rfl)) (fun _ _ _ _ _ => pts_nil) (fun _ _ _ _ _ => (pe_call G5 (hr.mono (by omega)) (by rfl) T.gkey_of T.fkey_of.kp T.nkey_of .nil pass0 (pa_cons (pv 3) pa_nil))))
      (pss_one (ps_ret (pe_callB (cr_all rfl) (by rfl) T.b_all (by decide +kernel) (pa_cons (pe_lc (own := [("key", 4), ("further", 5)]) (g := (gTup K 2 (gCons (gName 4) (gCons (gName 5) gNil)))) (tt := tYes) (by rfl) nd (pi_zip (by rfl) T.b_zip (pa_cons (pv 2) (pa_cons (pe_slice sl_list (pv 2) (po_some pe_int) po_none) pa_nil))) (blkOk_by (own := [("key", 4), ("further", 5)]) (N := N_is_fact) (sc := defScope s_is_fact) (by decide +kernel)) (fun _ _ _ _ _ => pg_tup rfl (pgs_cons (pg_name (i := 4) nd rfl (.inl rfl)) (pgs_cons (pg_name (i := 5) nd rfl (.inl rfl)) pgs_nil))) (fun _ _ _ _ _ => pts_nil) (fun _ _ _ _ _ => (pe_cmpR (r := rLtD K) (op_ltD hr.units) (pv 4) (pv 5) (nomark _)))) pa_nil)))))))), ?_⟩
  have no : factD d = false → ∀ H', Same H H' → Q (.bl false) H' := fun e H' s => by
    have := q H' s
    rw [e] at this
    exact this
  refine ⟨_, rfl, x, d, rfl, hx, _, rfl, ?_⟩
  cases hcd : coupleD d with
  | false =>
    refine iteT (no ?_ H (Same.refl H))
    match d, hcd with
    | .tuple [], _ | .tuple [_], _ | .tuple (_ :: _ :: _ :: _), _ => rfl
    | .none, _ | .bool _, _ | .int _, _ | .str _, _ | .list _, _ | .dict _, _ => rfl
  | true =>
  obtain ⟨d0, e, rfl⟩ := couple_eq hcd
  obtain ⟨f, x0, v, rfl, hf, h0, hv⟩ := dx_couple hx
  refine iteF ⟨_, rfl, f, _, 0, x0, rfl, rfl, SqT.of hf, atI_nat (j := 0) rfl, x0, .ty "tuple", _, _, _, rfl, .ty _, h0.ty, kit_ty (kit_tuple d0), _, rfl, ?_⟩
  match d0, h0 with
  | .none, _ | .bool _, _ | .int _, _ | .str _, _ | .list _, _ | .dict _, _ => exact iteT (no rfl H (Same.refl H))
  | .tuple ps, h0 =>
  cases h0 with
  | @tup t us _ ht hu =>
  have fps := few ps e rfl
  refine iteF ⟨_, rfl, f, t, us, v, ps, e, rfl, hf, ht, hu, hv, by omega, fun p ys H1 s1 np hp dy => ?_⟩
  have sh2 : shortAll ps = true ∧ shortD e = true := by
    have : shortAll [.tuple ps, e] = true := sh
    simpa [shortAll, shortD] using this
  have z2 : szAll (ps ++ endOf e) ≤ 10000 := by
    have : szAll (endOf e) ≤ szD e := by cases e <;> simp [endOf, szAll, szD]
    rw [szAll_append]
    simp only [szD, szAll] at sz
    omega
  have sh3 : shortAll (ps ++ endOf e) = true := by
    rw [shortAll_append, sh2.1, Bool.true_and]
    have := sh2.2
    cases e <;> simp_all [endOf, shortAll]
  have l3 : (ps ++ endOf e).length ≤ 101 := by
    rw [List.length_append]
    have : (endOf e).length ≤ 1 := by cases e <;> simp [endOf]
    omega
  refine ⟨_, rfl, p, ys, _, rfl, SqL.of hp, dy, sh3, by omega, by omega, fun H2 s2 => ⟨_, rfl, ?_⟩⟩
  have s12 := s1.trans s2
  have ef : factD (.tuple [.tuple ps, e]) = (couplesD (ps ++ endOf e) && ((ps ++ endOf e).all ordC && chainD (ps.map keyC))) := rfl
  cases hcs : couplesD (ps ++ endOf e) with
  | false => exact iteT (no (by rw [ef, hcs]; rfl) H2 s12)
  | true =>
  have wr := couples_wr hcs z2
  rw [hcs, Bool.true_and] at ef
  have hp2 := s2 _ _ hp
  have dy2 := dy.up s2
  refine iteF ⟨_, rfl, p, rfl, ⟨_, SqL.of hp2⟩, fun D nD => ?_⟩
  have ly := dy2.length
  refine lc_list (K := K) (a := p) (xs := ys) (fun i G => Same H2 G ∧ G D = some (.lst ((((ps ++ endOf e).take i).map ordC).map V.bl))) ⟨same_put nD, upd_same⟩ (fun i G _ h => SqL.of (h.1 _ _ hp2)) ?_ ?_
  · rintro i x G hi ⟨sG, eD⟩
    have lti : i < (ps ++ endOf e).length := by rw [← ly]; exact (List.getElem?_eq_some_iff.mp hi).1
    have gd := List.getElem?_eq_getElem lti
    obtain ⟨v2, hv2, dv⟩ := dy2.get gd
    rw [hi] at hv2
    cases hv2
    obtain ⟨a, b, eab, wa, wb⟩ := wr _ (List.getElem_mem lti)
    rw [eab] at dv
    obtain ⟨q0, u, v3, rfl, hq0, du, dv3⟩ := dx_couple dv
    refine ⟨rfl, (iteT (B := False) ?_ : if true = true then _ else False)⟩
    refine ⟨_, rfl, q0, u, v3, a, b, rfl, sG _ _ hq0, du.up sG, dv3.up sG, wa, wb, fun H3 s3 => ⟨_, s3 _ _ eD, ?_, fun c o hc => ?_, ?_⟩⟩
    · rw [List.length_map, List.length_map, List.length_take]
      exact small1000 (by omega)
    · rw [upd_ne (ne_of_none hc nD)]
      exact s3 _ _ (sG c o hc)
    · rw [upd_same, List.take_add_one, gd, List.map_append, List.map_append, eab]
      rfl
  · rintro G ⟨sG, eD⟩
    rw [ly, List.take_length] at eD
    refine ⟨D, _, rfl, .inl (.inl eD), _, rfl, ?_⟩
    have eall : (((ps ++ endOf e).map ordC).all id) = (ps ++ endOf e).all ordC := by
      rw [List.all_map]
      rfl
    rw [eall]
    have s3 := s12.trans sG
    cases ho : (ps ++ endOf e).all ordC with
    | false => exact iteT (no (by rw [ef, ho]; rfl) G s3)
    | true =>
    rw [ho, Bool.true_and] at ef
    refine iteF ?_
    have wps : ∀ d, d ∈ ps → ∃ a b, d = .tuple [a, b] ∧ Wr a ∧ Wr b := fun d hd => wr d (List.mem_append_left _ hd)
    have lu := hu.length
    refine ⟨_, rfl, f, _, 0, .ref t, rfl, rfl, SqT.of (s3 _ _ hf), atI_nat (j := 0) rfl, t, rfl, ⟨_, SqT.of (s3 _ _ ht)⟩, fun D2 nD2 => ?_⟩
    refine lc_tup (K := K) (a := t) (xs := us) (fun i G2 => Same G G2 ∧ ∃ vs, G2 D2 = some (.lst vs) ∧ DxAll K G2 vs ((ps.take i).map keyC)) ⟨same_put nD2, [], upd_same, .nil⟩ (fun i G2 _ h => SqT.of (h.1 _ _ (s3 _ _ ht))) ?_ ?_
    · rintro i x G2 hi ⟨sG2, vs, eD2, dk⟩
      have lti : i < ps.length := by rw [← lu]; exact (List.getElem?_eq_some_iff.mp hi).1
      have gd := List.getElem?_eq_getElem lti
      obtain ⟨v2, hv2, dv⟩ := hu.get gd
      rw [hi] at hv2
      cases hv2
      obtain ⟨a, b, eab, wa, wb⟩ := wps _ (List.getElem_mem lti)
      rw [eab] at dv
      obtain ⟨q0, u, v3, rfl, hq0, du, dv3⟩ := dx_couple dv
      have sHG := s3.trans sG2
      refine ⟨rfl, (iteT (B := False) ?_ : if true = true then _ else False)⟩
      refine ⟨_, rfl, q0, u, v3, a, b, rfl, sHG _ _ hq0, du.up sHG, dv3.up sHG, wa, wb, fun k G3 sG3 nk hk => ⟨_, sG3 _ _ eD2, ?_, fun c o hc => ?_, vs ++ [.ref k], upd_same, ?_⟩⟩
      · rw [dk.length, List.length_map, List.length_take]
        exact small1000 (by omega)
      · rw [upd_ne (ne_of_none hc nD2)]
        exact sG3 _ _ (sG2 c o hc)
      · have nkD : k ≠ D2 := (ne_of_none eD2 nk).symm
        have e1 : (ps.take (i + 1)).map keyC = (ps.take i).map keyC ++ [keyC ps[i]] := by
          rw [List.take_add_one, gd, List.map_append]
          rfl
        rw [e1, eab]
        refine DxAll.append (DxAll.ts (Tups.lst (sG3 _ _ eD2)) _ _ ?_ (dk.up sG3)) (.cons (.tup (by rw [upd_ne nkD]; exact hk) (.cons (.str _) (.cons (.str _) .nil))) .nil)
        exact pure_keys fun d hd => wps d (List.mem_of_mem_take hd)
    · rintro G2 ⟨sG2, vs, eD2, dk⟩
      rw [lu, List.take_length] at dk
      refine ⟨_, rfl, _, rfl, 1, rfl, ?_⟩
      dsimp only [tNoPart]
      refine ⟨D2, vs, rfl, SqL.of eD2, fun D3 nD3 => ?_⟩
      have ec : cutV vs (some 1) none = vs.drop 1 := by
        cases vs with
        | nil => rfl
        | cons a b => exact cut_one (by simp)
      rw [ec]
      have s4 := s3.trans (sG2.trans (same_put (o := .lst (vs.drop 1)) nD3))
      have eD24 := same_put (o := .lst (vs.drop 1)) nD3 _ _ eD2
      have dk4 := dk.up (same_put (o := .lst (vs.drop 1)) nD3)
      have eD3 : (upd G2 D3 (.lst (vs.drop 1))) D3 = some (.lst (vs.drop 1)) := upd_same
      generalize upd G2 D3 (.lst (vs.drop 1)) = G3 at s4 eD24 dk4 eD3 ⊢
      refine ⟨D2, D3, vs, vs.drop 1, rfl, SqL.of eD24, SqL.of eD3, fun D4 nD4 => ?_⟩
      have lk : vs.length = ps.length := by rw [dk.length, List.length_map]
      obtain ⟨ks, eks⟩ : ∃ ks, ks = ps.map keyC := ⟨_, rfl⟩
      have lks : ks.length = vs.length := by rw [eks, List.length_map, lk]
      obtain ⟨cs, ecs⟩ : ∃ cs : List Bool, cs = (ks.zip ks.tail).map fun p => PySem.W.dataLt p.1 p.2 := ⟨_, rfl⟩
      have lcs : cs.length = vs.length - 1 := by
        rw [ecs, List.length_map, List.length_zip, List.length_tail, lks]
        omega
      rw [← eks] at dk4 ef
      refine lc_it (walk_zip (n := vs.length - 1) (by rw [List.length_drop]; omega)) (fun i G4 => Same G3 G4 ∧ G4 D4 = some (.lst ((cs.take i).map V.bl))) ⟨same_put nD4, upd_same⟩ (fun i G4 _ h => ⟨SqL.of (h.1 _ _ eD24), SqL.of (h.1 _ _ eD3)⟩) ?_ ?_
      · rintro i x G4 G5 hi ⟨sG4, eD4⟩ ⟨T5, u, v5, rfl, nT5, rfl, hu5, hv5⟩
        have hi1 : i < ks.length := by omega
        have hi2 : i + 1 < ks.length := by omega
        have hu5 : vs[i]? = some u := hu5
        have hv5 : (vs.drop 1)[i]? = some v5 := hv5
        rw [List.getElem?_drop, Nat.add_comm] at hv5
        have g1 := List.getElem?_eq_getElem hi1
        have g2 := List.getElem?_eq_getElem hi2
        obtain ⟨u', hu', du⟩ := dk4.get g1
        obtain ⟨v', hv', dv⟩ := dk4.get g2
        rw [hu5] at hu'
        rw [hv5] at hv'
        cases hu'
        cases hv'
        have kd : ∀ (j : Nat) (hj : j < ks.length), ∃ x y : Str, ks[j] = .tuple [.str x, .str y] := fun j hj => by
          have lt : j < ps.length := by omega
          obtain ⟨a, b, e1, _⟩ := wps ps[j] (List.getElem_mem lt)
          refine ⟨tS (tx a), tS (tx b), ?_⟩
          have : ks[j]? = some (keyC ps[j]) := by rw [eks, List.getElem?_map, List.getElem?_eq_getElem lt]; rfl
          rw [List.getElem?_eq_getElem hj, e1] at this
          exact Option.some.inj this
        obtain ⟨x1, y1, k1⟩ := kd i hi1
        obtain ⟨x2, y2, k2⟩ := kd (i + 1) hi2
        have s5 := sG4.trans (same_put (o := .tup [u, v5]) nT5)
        have eD5 := same_put (o := .tup [u, v5]) nT5 _ _ eD4
        have eT5 : (upd G4 T5 (.tup [u, v5])) T5 = some (.tup [u, v5]) := upd_same
        generalize upd G4 T5 (.tup [u, v5]) = G5 at s5 eD5 eT5 ⊢
        refine ⟨T5, _, rfl, SqT.of eT5, rfl, _, _, rfl, _, _, rfl, rfl, rfl, (iteT (B := False) ?_ : if true = true then _ else False)⟩
        refine ⟨_, rfl, _, rfl, ks[i], ks[i + 1], du.up s5, dv.up s5, by rw [k1, k2]; rfl, by rw [k1]; simp, by rw [k1]; simp [PyData.depth, PyData.depthAll], _, eD5, ?_, fun c o hc => ?_, ?_⟩
        · rw [List.length_map, List.length_take]
          exact small1000 (by omega)
        · rw [upd_ne (ne_of_none hc nD4)]
          exact s5 _ _ hc
        · have gc : cs[i]? = some (PySem.W.dataLt ks[i] ks[i + 1]) := by
            have ez : (ks.zip ks.tail)[i]? = some (ks[i], ks[i + 1]) := List.getElem?_zip_eq_some.mpr ⟨g1, by rw [List.getElem?_tail]; exact g2⟩
            rw [ecs, List.getElem?_map, ez]
            rfl
          rw [upd_same, List.take_add_one, gc, List.map_append]
          rfl
      · rintro G4 ⟨sG4, eD4⟩
        rw [← lcs, List.take_length] at eD4
        refine ⟨D4, _, rfl, .inl (.inl eD4), ?_⟩
        have q := q G4 (s4.trans sG4)
        rw [ef] at q
        have e : cs.all id = chainD ks := by
          rw [ecs, List.all_map]
          rfl
        rw [← e] at q
        exact q
end
end K14
/-! xs.count(y), flat items. -/
namespace Kx
open PySem PySem.Spec PyProof.Rows L2
def rCountF (K : PySem.W.Frag) : V → List V → Hp → VK → Prop := fun x xs H Q => ∃ (a : Addr) (ys : List V) (y : V), x = .ref a ∧ xs = [y] ∧ SqL K H a ys ∧ flatV y = true ∧ ys.all flatV = true ∧ Q (.int ((ys.countP fun z => eqV z y : Nat) : Int)) H
theorem count_eqU {x : V} : ∀ {xs : List V} {us : List Value}, Vals xs us → xs.all flatV = true → us.countP (eqU x) = xs.countP fun y => eqV y x
  | _, _, .nil, _ => rfl
  | y :: xs, u :: us, .cons r t, f => by
    rw [List.all_cons, Bool.and_eq_true] at f
    rw [List.countP_cons, List.countP_cons, count_eqU t f.2, eqU_of r f.1]
theorem mt_countF {X : Cx} : MtR X "list.count" (rCountF X.K) := by
  intro pins s σ H x xs v us Q I rx rxs h
  obtain ⟨p, ys, y, rfl, rfl, hs, fy, fys, q⟩ := h
  cases rx
  obtain ⟨u, rfl, ru⟩ := rxs.one
  obtain ⟨its, rv, ⟨⟨cls, dd, data, sl⟩, n, ho, hc, hdn, hd⟩, hlen⟩ := I.list hs
  simp only at hc hd
  subst hc hd
  refine call_meets PySem.F.slot_list_count ⟨_, ho, rfl⟩ PySem.F.entry_list_count (PySem.F.args_list_count_2 _ _)
    (SeqAt.list_countAt p its.toArray n dd sl u (eqU y)) ⟨ho, fun u' hu' => mem_eqAt ru fy rv fys u' (by simpa using hu'), ?_⟩
  have ec : its.toArray.toList.countP (eqU y) = ys.countP fun z => eqV z y := count_eqU rv fys
  refine ⟨.int ((ys.countP fun z => eqV z y : Nat) : Int), H, I.tok _, ⟨s.toks, ?_⟩, q⟩
  show Value.int ((its.toArray.toList.countP (eqU y) : Nat) : Int) s.toks = Value.int ((ys.countP (fun z => eqV z y) : Nat) : Int) s.toks
  rw [ec]
end Kx
/-! A lambda handed to a def that tells by two except clauses. -/
namespace Kx
open PySem PySem.Spec PyProof.Rows L2 LamX
theorem takes00 {X : Cx} : Takes X (fun _ _ _ _ => False) := LamX.takes0
def Told2 (K : PySem.W.Frag) (C1 C2 : Addr) (r1 r2 : Str) (Q : VK) : XK := fun cls _ H' =>
  ∃ b, PySem.W.exmOne K cls (.ref C1) = some b ∧ (b = true → Q (.str r1) H') ∧ (b = false → ∃ b2, PySem.W.exmOne K cls (.ref C2) = some b2 ∧ (b2 = true → Q (.str r2) H') ∧ (b2 = false → False))
def TTold2 (K : PySem.W.Frag) (C1 C2 : Addr) (r1 r2 : Str) : (XK → Hp → VK → Prop) → Hp → VK → Prop := fun tl H Q => tl (Told2 K C1 C2 r1 r2 Q) H Q
theorem told_gives2 {X : Cx} {Ng : List Str} {x a e1 e2 q r1 r2 : Str} {sg : Scope} {g C1 C2 : Addr} {cdg : Value} {j1 j2 : Nat} {p1 p2 p3 p4 p5 p6 p7 p8 p9 p10 p11 p12 : Pos}
    (hg1 : sg.names.lookup e1 = some .globalImplicit) (hm1 : X.mg e1 = some (.ref C1)) (hd1 : (e1 == ("__debug__" : Str)) = false)
    (hg2 : sg.names.lookup e2 = some .globalImplicit) (hm2 : X.mg e2 = some (.ref C2)) (hd2 : (e2 == ("__debug__" : Str)) = false) (h0 : ∀ f : Addr, (L2.start Ng [V.ref f])[0]? = some (some (V.ref f))) :
    GivesTo X Ng x sg g cdg [.Try [.Return (some (.Call (.Name a p1) [] [] p2)) p3] [.ExceptHandler (some (.Name e1 p4)) none [.Return (some (.Constant (.str r1) j1 p5)) p6] p7, .ExceptHandler (some (.Name e2 p9)) none [.Return (some (.Constant (.str r2) j2 p10)) p11] p12] [] [] p8] a q (TTold2 X.K C1 C2 r1 r2) := by
  intro f c' s H Q tl act hc h
  have gl1 : Gl (cxOf C8.CX0 X.prog X.w X.K X.mg X.base Ng x sg g cdg X.A X.stack s H C8.E0).nox e1 := hg1
  have gl2 : Gl (cxOf C8.CX0 X.prog X.w X.K X.mg X.base Ng x sg g cdg X.A X.stack s H C8.E0).nox e2 := hg2
  refine ⟨_, pss_one (ps_try_many (X := (cxOf C8.CX0 X.prog X.w X.K X.mg X.base Ng x sg g cdg X.A X.stack s H C8.E0).nox)
      (tb := fun W D σ H => ∃ Ech : XK, (∀ cls d σ' H', Ech cls d H' → W cls d σ' H') ∧ σ[0]? = some (some (.ref f)) ∧ H c' = some (CodeO c' q) ∧ tl Ech H D.rt)
      rfl rfl takes00 (fun W pn xe tk _ => ?_) (.cons ⟨gl1, hd1, .inl hm1⟩ (fun a oe cls d pn _ _ => pss_one (ps_ret pe_str)) (.cons ⟨gl2, hd2, .inl hm2⟩ (fun a oe cls d pn _ _ => pss_one (ps_ret pe_str)) .nil))), ?_⟩
  · refine ⟨fun pins s' σ H' D I h' => ?_⟩
    obtain ⟨Ech, hW, h1, h2, h3⟩ := h'
    have hp := act W pn xe Ech p1 p2 tk hW
    have hq := pss_one (ps_ret (pos := p3) hp)
    exact hq.run pins s' σ H' D I ⟨h1, h2, h3⟩
  · refine ⟨Told2 X.K C1 C2 r1 r2 Q, fun cls d σ' H' ⟨b, e1, q1, q2⟩ => ⟨b, e1, fun hb a _ => q1 hb, fun hb => ?_⟩, h0 f, hc, h⟩
    obtain ⟨b2, e2, z1, z2⟩ := q2 hb
    exact ⟨b2, e2, fun hb a _ => z1 hb, fun hb => z2 hb⟩
end Kx
/-! try .. except X as e: what the suite may lean on. -/
namespace Kx
open PySem PySem.Spec PyProof.Rows L2 LamX
theorem takes_len {X : Cx} {W : WX} (t : Takes X W) : Takes X (fun cls d σ H => σ.length = X.N.length → W cls d σ H) := fun u s' ⟨a, B, sI, pins, σ, H, cls, d, e, I, nb, up, sky, na, os, ag, w⟩ =>
  t u s' ⟨a, B, sI, pins, σ, H, cls, d, e, I, nb, up, sky, na, os, ag, w I.len⟩
theorem pss_guard {X : Cx} {b : List Stmt} {p : Prop} {t : TS} (h : p → PSs X b t) : PSs X b (fun D σ H => p ∧ t D σ H) := ⟨fun pins s σ H D I h' => (h h'.1).run pins s σ H D I h'.2⟩
theorem pe_bmK {X : Cx} {K : PySem.W.Frag} (hK : X.K = K) {T : String} {name : Str} {id : String} {r : V → List V → Hp → VK → Prop} {o e : Expr} {es : List Expr} {to : TE} {t : TA} {apos cpos : Pos} (pa : PlainAttrs T) (slot : Slot T name id) (hty : typeOf (.builtin id) = pure (.type "method_descriptor")) (hm : MtR X id r) (ho : PE X o to) (ha : PA X (e :: es) t)
    (hbase : attributeBase o name X.env (eval o X.env) = eval o X.env := by rfl)
    (hfew : ((backTo cpos (starEach (e :: es) X.env)).all (fun x => !x.1) && (backToKw cpos (keywordEach [] X.env)).all (fun x => x.1.isSome)
      && decide ((e :: es).length + ([] : List Keyword).length + (if ([] : List Keyword).isEmpty then 0 else 1) < 30)) = true := by rfl)
    (hline : (apos.endLine == cpos.line) = true := by rfl) (hs : starEach (e :: es) X.env = (false, eval e X.env) :: starEach es X.env := by rfl) (hplain : (backTo cpos (starEach es X.env)).any (·.1) = false := by rfl) :
    PE X (.Call (.Attribute o name apos) (e :: es) [] cpos) (tBM K T r to t) := by
  subst hK
  exact pe_bm pa slot hty hm ho ha hbase hfew hline hs hplain
theorem pss_false {X : Cx} {b : List Stmt} : PSs X b (fun _ _ _ => False) := ⟨fun pins s σ H D I h => h.elim⟩
end Kx
/-! A list or a tuple walked; check_fact; pairs_of. -/
namespace Kx
open PySem PySem.Spec PyProof.Rows L2
/-- what a list or a tuple holds -/
def Sq (K : PySem.W.Frag) (H : Hp) (a : Addr) (xs : List V) : Prop := SqL K H a xs ∨ SqT K H a xs
def iSeq (K : PySem.W.Frag) (tl : TE) : TI := fun σ H R => tl σ H fun x H1 => ∃ a, x = .ref a ∧ (((∃ xs, SqL K H1 a xs) ∧ R (Itl K a) H1) ∨ ((∃ xs, SqT K H1 a xs) ∧ R (Itt K a) H1))
theorem pi_seq {X : Cx} {tg l : Expr} {tl : TE} (hl : PE X l tl) : PI X tg l (iSeq X.K tl) := by
  refine ⟨fun pins s σ H R I h => ?_⟩
  refine thn (hl.run pins s σ H _ I h) fun v s1 ⟨x, H1, I1, r1, q1⟩ => ?_
  obtain ⟨a, e, q⟩ := q1
  subst e
  cases r1
  rcases q with ⟨⟨xs, hq⟩, q⟩ | ⟨⟨xs, hq⟩, q⟩
  · obtain ⟨its, rv, p, hz⟩ := I1.list hq
    refine wpAny_pyIter_list p.isList ?_
    refine ⟨s1.heap.objs.size, [s1.heap.objs.size], _, _, H1, rfl, I1.kept (t' := s1.toks) fun b o e => Heap.get?_push_of_some _ e, turn_list a _, ⟨_, Heap.get?_push_size _ rfl, rfl, rfl⟩, fun b hb => ?_, q⟩
    have e : b = s1.heap.objs.size := by simpa using hb
    subst e
    exact I1.fpOk (Nat.le_refl _) (I1.hok.fresh (Nat.le_refl _))
  · obtain ⟨its, rv, p, hz⟩ := I1.tuple hq
    refine wpAny_pyIter_tuple (show s1.heap.IsTuple a its.toArray from p) ?_
    refine ⟨s1.heap.objs.size, [s1.heap.objs.size], _, _, H1, rfl, I1.kept (t' := s1.toks) fun b o e => Heap.get?_push_of_some _ e, turn_tuple a _, ⟨_, Heap.get?_push_size _ rfl, rfl, rfl⟩, fun b hb => ?_, q⟩
    have e : b = s1.heap.objs.size := by simpa using hb
    subst e
    exact I1.fpOk (Nat.le_refl _) (I1.hok.fresh (Nat.le_refl _))
end Kx
namespace K14
open PySem PySem.Spec PyProof.Rows L2 Kx
section
variable {P : Program} {w : World} {K : PySem.W.Frag} {mg : Str → Option Value} {base : Heap}
/-- what may be asked whether it is a fact -/
structure Fz (K : PySem.W.Frag) (H : Hp) (x : V) (d : PyData) : Prop where
  dx : Dx K H x d
  sh : shortD d = true
  sz : szD d ≤ 10000
  few : ∀ ps e, d = .tuple [.tuple ps, e] → ps.length ≤ 100
theorem Fz.up {H H' : Hp} {x : V} {d : PyData} (h : Fz K H x d) (s : Same H H') : Fz K H' x d := ⟨h.dx.up s, h.sh, h.sz, h.few⟩
def spCkF (K : PySem.W.Frag) (C : Addr) : Sp := fun vs H Q E => ∃ (x : V) (d : PyData), vs = [x] ∧ Fz K H x d ∧ (factD d = true → ∀ H', Same H H' → Q .non H') ∧ (factD d = false → ∀ H', Same H H' → E (.ref C) none H')
theorem ok_ckf (T : Tx K mg) : FnOk P w K mg base (L2.CX P w) 6 T.acheck_fact T.dcheck_fact ["value"] (spCkF K T.CInvalidFact) := by
  have nd := sc_check_fact.nd
  have G := ok_fact (P := P) (w := w) (base := base) T
  refine T.fcheck_fact.okX sc_check_fact (fun vs H Q E h => ?_) (fun cdv A outer s H vs Q E hr h => ?_)
  · obtain ⟨x, d, rfl, _⟩ := h
    rfl
  obtain ⟨x, d, rfl, hx, q1, q0⟩ := h
  refine ⟨_, (pss_one (ps_if (pt_not (pt_val (pe_call G (hr.mono (by omega)) (by rfl) T.gis_fact T.fis_fact.kp T.nis_fact .nil pass0 (pa_cons (pv 0) pa_nil)))) (pss_one (ps_raise rfl (takes_of rfl rfl rfl rfl) (pmk_own PySem.F.excBase_ValueError T.xInvalidFact T.gInvalidFact T.kInvalidFact (raises_own T.bInvalidFact T.tInvalidFact) (by rfl)))) pss_nil)), ?_⟩
  refine ⟨_, rfl, x, d, rfl, hx.dx, hx.sh, hx.sz, hx.few, fun H' sm => ⟨_, rfl, ?_⟩⟩
  cases t : factD d with
  | false => exact iteT (q0 t H' sm)
  | true => exact iteF (q1 t H' sm)
end
end K14
/-! pairs_of: how many stay. -/
namespace K14
open PySem PySem.Spec PyProof.Rows L2 Kx
section
variable {P : Program} {w : World} {K : PySem.W.Frag} {mg : Str → Option Value} {base : Heap}
/-- both sides have one text -/
def eqC : PyData → Prop
  | .tuple [a, b] => tx a = tx b
  | _ => True
theorem tx_tri {l m : List Nat} (h1 : ¬ l < m) (h2 : ¬ m < l) : l = m := by
  exact List.le_antisymm (List.not_lt.mp h2) (List.not_lt.mp h1)
theorem Sq.up {H H' : Hp} {a : Addr} {xs : List V} (s : Same H H') (h : Sq K H a xs) : Sq K H' a xs := h.elim (fun h => .inl (s.seq h)) fun h => .inr (Same.tup s h)
theorem put_ne {kvs : List (List Key × V)} {k : List Key} {v : V} : putK kvs k v ≠ [] := by
  unfold putK
  split
  · rename_i h
    intro z
    rw [List.map_eq_nil_iff.mp z] at h
    cases h
  · simp
theorem put_keys {kvs : List (List Key × V)} {k : List Key} {v : V} (p : List Key × V) (hp : p ∈ putK kvs k v) : p.1 = k ∨ ∃ q, q ∈ kvs ∧ q.1 = p.1 := by
  unfold putK at hp
  split at hp
  · obtain ⟨q, hq, rfl⟩ := List.mem_map.mp hp
    refine .inr ⟨q, hq, ?_⟩
    split <;> rfl
  · rcases List.mem_append.mp hp with h | h
    · exact .inr ⟨p, h, rfl⟩
    · rw [List.mem_singleton.mp h]
      exact .inl rfl
def PoKeys (kvs : List (List Key × V)) : Prop := ∀ p, p ∈ kvs → ∃ x y : Str, p.1 = [Sum.inr x, Sum.inr y]
theorem po_put {kvs : List (List Key × V)} {x y : Str} {v : V} (h : PoKeys kvs) : PoKeys (putK kvs [Sum.inr x, Sum.inr y] v) := fun p hp => by
  rcases put_keys p hp with e | ⟨q, hq, e⟩
  · exact ⟨x, y, e⟩
  · rw [← e]
    exact h q hq
theorem val_mem {k : List Key} : ∀ {kvs : List (List Key × V)}, k ∈ kvs.map Prod.fst → ∃ v, valV kvs k = some v
  | p :: l, h => by
    by_cases e : p.1 = k
    · exact ⟨p.2, valV_pos e⟩
    · rw [List.map_cons, List.mem_cons] at h
      rcases h with h | h
      · exact absurd h.symm e
      · rw [valV_neg e]
        exact val_mem h
def ForR (J : It) (g : TG) (tb : TS) (D : L2.Ends) (σ : L2.St) (H : Hp) : Prop := ∃ W : Nat → Nat → L2.St → Hp → Prop, (∃ m, W 0 m σ H) ∧ ∀ i m σ H, W i m σ H →
  (J.stop i H ∧ D.nx σ H) ∨ (J.go i H ∧ ∃ N : L2.St → Hp → Prop, (∀ σ' H', N σ' H' → ∃ m', m' < m ∧ W (i + 1) m' σ' H') ∧ ∀ x H', J.yld i H x H' → g x σ H' fun σ2 H2 => tb { D with nx := N, ct := N, bk := D.nx } σ2 H2)
theorem for_seq {a : Addr} {xs : List V} {g : TG} {tb : TS} {D : L2.Ends} {σ : L2.St} {H H0 : Hp} (h : Sq K H0 a xs) (s0 : Same H0 H) (Pv : Nat → L2.St → Hp → Prop) (h0 : Pv 0 σ H) (hl : ∀ i σ G, i ≤ xs.length → Pv i σ G → Same H0 G)
    (hs : ∀ i x σ H, xs[i]? = some x → Pv i σ H → g x σ H fun σ2 H2 => tb { D with nx := Pv (i + 1), ct := Pv (i + 1), bk := D.nx } σ2 H2) (hd : ∀ σ H, Pv xs.length σ H → D.nx σ H) :
    ((∃ xs, SqL K H a xs) ∧ ForR (Itl K a) g tb D σ H) ∨ ((∃ xs, SqT K H a xs) ∧ ForR (Itt K a) g tb D σ H) := by
  rcases h with h | h
  · exact .inl ⟨⟨xs, s0.seq h⟩, for_list Pv h0 (fun i σ G hi p => (hl i σ G hi p).seq h) hs hd⟩
  · exact .inr ⟨⟨xs, Same.tup s0 h⟩, for_tup Pv h0 (fun i σ G hi p => Same.tup (hl i σ G hi p) h) hs hd⟩
def spPo (K : PySem.W.Frag) : Sp := fun vs H Q _ => ∃ (a : Addr) (xs : List V) (ds : List PyData), vs = [.ref a] ∧ Sq K H a xs ∧ DxAll K H xs ds ∧ (∀ d, d ∈ ds → ∃ a b, d = .tuple [a, b] ∧ Wr a ∧ Wr b) ∧ ds.length ≤ 300 ∧
  ∀ p vs H', Same H H' → H' p = some (.tup vs) → (vs = [] ↔ ∀ d, d ∈ ds → eqC d) → Q (.ref p) H'
theorem ok_po (T : Tx K mg) : FnOk P w K mg base CX0 3 T.apairs_of T.dpairs_of ["couples"] (spPo K) := by
  have nd := sc_pairs_of.nd
  have G := ok_key (P := P) (w := w) (base := base) T
  refine T.fpairs_of.ok sc_pairs_of (fun vs H Q E h => ?_) (fun cdv A outer s H vs Q E hr h => ?_)
  · obtain ⟨a, xs, ds, rfl, _⟩ := h
    rfl
  obtain ⟨a, xs, ds, rfl, ha, hx, hc, few, q⟩ := h
  have hu := hu_of hr
  refine ⟨_, (pss_cons (ps_set (i := 1) nd rfl (.inr rfl) pe_dnewT)
      (pss_cons (ps_for PassesOwn.never rfl (pi_seq (pv 0)) (pg_tup rfl (pgs_cons (pg_name (i := 2) nd rfl (.inl rfl)) (pgs_cons (pg_name (i := 3) nd rfl (.inl rfl)) pgs_nil))) (pss_cons (ps_asg (pe_call G (hr.mono (by omega)) (by rfl) T.gkey_of T.fkey_of.kp T.nkey_of .nil pass0 (pa_cons (pe_tup (pa_cons (pv 2) (pa_cons (pv 3) pa_nil))) pa_nil)) (pg_tup rfl (pgs_cons (pg_name (i := 4) nd rfl (.inl rfl)) (pgs_cons (pg_name (i := 5) nd rfl (.inl rfl)) pgs_nil))))
      (pss_one (ps_if (pt_cmpR op_lt_str (pv 4) (pv 5) (nomark _)) (pss_one (ps_asg (pe_tup (pa_cons (pv 2) (pa_cons (pv 3) pa_nil))) (pg_sub (pv 1) (pe_tup (pa_cons (pv 4) (pa_cons (pv 5) pa_nil))) (set_dict hu)))) (pss_one (ps_if (pt_cmpR op_lt_str (pv 5) (pv 4) (nomark _)) (pss_one (ps_asg (pe_tup (pa_cons (pv 3) (pa_cons (pv 2) pa_nil))) (pg_sub (pv 1) (pe_tup (pa_cons (pv 5) (pa_cons (pv 4) pa_nil))) (set_dict hu)))) pss_nil))))))
      (pss_one (ps_ret (pe_callTy call_tuple_of (by rfl) T.b_tuple (by decide +kernel) (pa_cons (pe_lc (own := [("key", 6)]) (g := (gName 6)) (tt := tYes) (by rfl) nd (pi_list (pe_callB (cr_sortedKT rfl hr.units) (by rfl) T.b_sorted (by decide +kernel) (pa_cons (pv 1) pa_nil))) (blkOk_by (own := [("key", 6)]) (N := N_pairs_of) (sc := defScope s_pairs_of) (by decide +kernel)) (fun _ _ _ _ _ => pg_name (i := 6) nd rfl (.inl rfl)) (fun _ _ _ _ _ => pts_nil) (fun _ _ _ _ _ => (pe_dget hu (pv 1) (pv 6) (fun _ _ => rfl)))) pa_nil)))))), ?_⟩
  intro fd nfd
  have s1 : Same H (upd H fd (.dT [])) := same_put nfd
  have lx := hx.length
  refine ⟨_, rfl, a, rfl, for_seq (xs := xs) ha s1 (fun i σ G => (∃ y2 y3 y4 y5 y6, σ = [some (.ref a), some (.ref fd), y2, y3, y4, y5, y6]) ∧ Same H G ∧ ∃ kvs, G fd = some (.dT kvs) ∧ PoKeys kvs ∧ kvs.length ≤ i ∧ (kvs = [] ↔ ∀ d, d ∈ ds.take i → eqC d)) ?_ (fun i σ G _ h => h.2.1) ?_ ?_⟩
  · refine ⟨⟨none, none, none, none, none, rfl⟩, s1, [], upd_same, (fun p hp => ?_), Nat.le_refl _, ?_⟩
    · cases hp
    · refine Iff.intro (fun _ d hd => ?_) fun _ => rfl
      rw [List.take_zero] at hd
      cases hd
  · rintro i x σ G hi ⟨⟨y2, y3, y4, y5, y6, rfl⟩, sG, kvs, ef, pk, lk, ek⟩
    have lti : i < ds.length := by rw [← lx]; exact (List.getElem?_eq_some_iff.mp hi).1
    have gd := List.getElem?_eq_getElem lti
    obtain ⟨v2, hv2, dv⟩ := hx.get gd
    rw [hi] at hv2
    cases hv2
    obtain ⟨ta, tb, eab, wa, wb⟩ := hc _ (List.getElem_mem lti)
    rw [eab] at dv gd
    obtain ⟨q0, u, v3, rfl, hq0, du, dv3⟩ := dx_couple dv
    have et : ds.take (i + 1) = ds.take i ++ [.tuple [ta, tb]] := by rw [List.take_add_one, gd]; rfl
    refine ⟨q0, _, rfl, SqT.of (sG _ _ hq0), rfl, _, _, rfl, _, _, rfl, rfl, ?_⟩
    refine ⟨_, rfl, _, rfl, by show 2 ≤ sizeLine; decide, fun c nc => ?_⟩
    have s2 := same_put (o := .tup [u, v3]) nc
    have sH2 := sG.trans s2
    have ef2 := s2 _ _ ef
    have ec2 : (upd G c (.tup [u, v3])) c = some (.tup [u, v3]) := upd_same
    generalize upd G c (.tup [u, v3]) = G2 at s2 sH2 ef2 ec2 ⊢
    refine ⟨c, u, v3, ta, tb, rfl, ec2, du.up sH2, dv3.up sH2, wa, wb, fun k G3 s3 nk hk => ?_⟩
    refine ⟨k, _, rfl, SqT.of hk, rfl, _, _, rfl, _, _, rfl, rfl, ?_⟩
    have ef3 := s3 _ _ ef2
    have sH3 := sH2.trans s3
    refine ⟨_, rfl, _, rfl, _, _, rfl, rfl, _, rfl, ?_⟩
    have lkv : kvs.length < sizeLine := small1000 (by omega)
    have put : ∀ (c2 k2 : Addr) (ob : HO) (x y : Str), G3 c2 = none → (upd G3 c2 ob) k2 = none →
        Same H (upd (upd (upd G3 c2 ob) k2 (.tup ([Sum.inr x, Sum.inr y].map kV))) fd (.dT (putK kvs [Sum.inr x, Sum.inr y] (.ref c2)))) ∧ (upd (upd G3 c2 ob) k2 (.tup ([Sum.inr x, Sum.inr y].map kV))) fd = some (.dT kvs) := fun c2 k2 ob x y n1 n2 => by
      have t1 := same_put (o := ob) n1
      have t2 := same_put (o := .tup ([Sum.inr x, Sum.inr y].map kV)) n2
      refine ⟨fun b o hb => ?_, t2 _ _ (t1 _ _ ef3)⟩
      rw [upd_ne (ne_of_none hb nfd)]
      exact t2 _ _ (t1 _ _ (sH3 _ _ hb))
    have more : ¬ tx ta = tx tb → ∀ kvs' : List (List Key × V), kvs' ≠ [] → (kvs' = [] ↔ ∀ d, d ∈ ds.take (i + 1) → eqC d) := fun ne kvs' nk' => by
      refine Iff.intro (fun z => absurd z nk') fun z => absurd ?_ ne
      have := z (.tuple [ta, tb]) (by rw [et]; simp)
      exact this
    by_cases h1 : tx ta < tx tb
    · rw [show decide ((tS (tx ta)).cps.toList < (tS (tx tb)).cps.toList) = true from decide_eq_true h1]
      refine iteT ?_
      refine ⟨_, rfl, _, rfl, by show 2 ≤ sizeLine; decide, fun c2 nc2 => ⟨_, rfl, _, rfl, _, rfl, by show 2 ≤ sizeLine; decide, fun k2 nk2 => ?_⟩⟩
      obtain ⟨z1, z2⟩ := put c2 k2 (.tup [u, v3]) (tS (tx ta)) (tS (tx tb)) nc2 nk2
      refine ⟨fd, _, rfl, DPut.t (k := [Sum.inr (tS (tx ta)), Sum.inr (tS (tx tb))]) z2 upd_same lkv, ⟨_, _, _, _, _, rfl⟩, z1, _, upd_same, po_put pk, ?_, ?_⟩
      · have := length_putK kvs [Sum.inr (tS (tx ta)), Sum.inr (tS (tx tb))] (.ref c2)
        omega
      · exact more (fun z => by rw [z] at h1; exact List.lt_irrefl _ h1) _ put_ne
    · rw [show decide ((tS (tx ta)).cps.toList < (tS (tx tb)).cps.toList) = false from decide_eq_false h1]
      refine iteF ?_
      refine ⟨_, rfl, _, rfl, _, _, rfl, rfl, _, rfl, ?_⟩
      by_cases h2 : tx tb < tx ta
      · rw [show decide ((tS (tx tb)).cps.toList < (tS (tx ta)).cps.toList) = true from decide_eq_true h2]
        refine iteT ?_
        refine ⟨_, rfl, _, rfl, by show 2 ≤ sizeLine; decide, fun c2 nc2 => ⟨_, rfl, _, rfl, _, rfl, by show 2 ≤ sizeLine; decide, fun k2 nk2 => ?_⟩⟩
        obtain ⟨z1, z2⟩ := put c2 k2 (.tup [v3, u]) (tS (tx tb)) (tS (tx ta)) nc2 nk2
        refine ⟨fd, _, rfl, DPut.t (k := [Sum.inr (tS (tx tb)), Sum.inr (tS (tx ta))]) z2 upd_same lkv, ⟨_, _, _, _, _, rfl⟩, z1, _, upd_same, po_put pk, ?_, ?_⟩
        · have := length_putK kvs [Sum.inr (tS (tx tb)), Sum.inr (tS (tx ta))] (.ref c2)
          omega
        · exact more (fun z => by rw [z] at h2; exact List.lt_irrefl _ h2) _ put_ne
      · rw [show decide ((tS (tx tb)).cps.toList < (tS (tx ta)).cps.toList) = false from decide_eq_false h2]
        have e := tx_tri h1 h2
        refine iteF ⟨⟨_, _, _, _, _, rfl⟩, sH3, kvs, ef3, pk, Nat.le_succ_of_le lk, ek.trans ?_⟩
        rw [et]
        refine Iff.intro (fun z d hd => ?_) fun z d hd => z d (List.mem_append_left _ hd)
        rcases List.mem_append.mp hd with h | h
        · exact z d h
        · rw [List.mem_singleton.mp h]
          exact e
  · rintro σ G ⟨⟨y2, y3, y4, y5, y6, rfl⟩, sG, kvs, ef, pk, lk, ek⟩
    rw [lx, List.take_length] at ek
    refine ⟨_, rfl, fd, kvs, rfl, ef, ?_, ?_, fun zs p np ez hz => ?_⟩
    · intro d hd d' hd'
      obtain ⟨p, hp, rfl⟩ := List.mem_map.mp hd
      obtain ⟨p', hp', rfl⟩ := List.mem_map.mp hd'
      obtain ⟨x, y, e⟩ := pk p hp
      obtain ⟨x', y', e'⟩ := pk p' hp'
      rw [e, e']
      rfl
    · intro p hp
      obtain ⟨x, y, e⟩ := pk p hp
      rw [e]
      simp
    · obtain ⟨zz, ezz⟩ : ∃ zz, zz = zs.mergeSort (PySem.W.dataLe false fun z => tupD z.2) := ⟨_, rfl⟩
      rw [← ezz]
      have pz : zz.Perm zs := by rw [ezz]; exact List.mergeSort_perm _ _
      have lz : zz.length = kvs.length := by
        rw [pz.length_eq, ← List.length_map (f := Prod.snd), ez, List.length_map]
      have sp := same_put (o := .lst (zz.map fun z => V.ref z.1)) np
      have ef1 := sp _ _ ef
      have hz1 : ∀ z, z ∈ zz → (upd G p (.lst (zz.map fun z => V.ref z.1))) z.1 = some (.tup (z.2.map kV)) := fun z h => sp _ _ (hz z (pz.mem_iff.mp h))
      have ep1 : (upd G p (.lst (zz.map fun z => V.ref z.1))) p = some (.lst (zz.map fun z => V.ref z.1)) := upd_same
      have sG1 := sG.trans sp
      generalize upd G p (.lst (zz.map fun z => V.ref z.1)) = G1 at ef1 hz1 ep1 sG1 ⊢
      refine ⟨p, rfl, ⟨_, SqL.of ep1⟩, fun D nD => ?_⟩
      refine lc_list (K := K) (a := p) (xs := zz.map fun z => V.ref z.1) (fun i G2 => Same G1 G2 ∧ ∃ vs, G2 D = some (.lst vs) ∧ vs.length = i) ⟨same_put nD, [], upd_same, rfl⟩ (fun i G2 _ h => SqL.of (h.1 _ _ ep1)) ?_ ?_
      · rintro i x G2 hi ⟨sG2, vs, eD, lv⟩
        rw [List.getElem?_map] at hi
        obtain ⟨z, hzi, rfl⟩ := Option.map_eq_some_iff.mp hi
        have mz := List.mem_of_getElem? hzi
        have lti := (List.getElem?_eq_some_iff.mp hzi).1
        have mk : z.2 ∈ kvs.map Prod.fst := by rw [← ez]; exact List.mem_map.mpr ⟨z, pz.mem_iff.mp mz, rfl⟩
        obtain ⟨v, hv⟩ := val_mem mk
        refine ⟨rfl, (iteT (B := False) ?_ : if true = true then _ else False)⟩
        refine ⟨_, rfl, _, rfl, fd, v, rfl, .inr ⟨kvs, z.2, z.1, .inl (sG2 _ _ ef1), rfl, sG2 _ _ (hz1 z mz), hv.symm⟩, vs, eD, ?_, fun c o hc => ?_, vs ++ [v], upd_same, ?_⟩
        · exact small1000 (by omega)
        · rw [upd_ne (ne_of_none hc nD)]
          exact sG2 c o hc
        · rw [List.length_append, lv]
          rfl
      · rintro G2 ⟨sG2, vs, eD, lv⟩
        rw [List.length_map, lz] at lv
        refine ⟨D, vs, rfl, .inl ⟨SqL.of eD, fun l nl => q l vs _ (sG1.trans (sG2.trans (same_put nl))) upd_same (Iff.trans ?_ ek)⟩⟩
        rw [← List.length_eq_zero_iff, ← List.length_eq_zero_iff, lv]
end
end K14
/-! fact_of, and what the functions of facts raise. -/
namespace K14
open PySem PySem.Spec PyProof.Rows L2 Kx
section
variable {P : Program} {w : World} {K : PySem.W.Frag} {mg : Str → Option Value} {base : Heap}
def Cpl (d : PyData) : Prop := ∃ a b, d = .tuple [a, b] ∧ Wr a ∧ Wr b
def spFo (K : PySem.W.Frag) : Sp := fun vs H Q _ => ∃ (a : Addr) (x : V) (e : PyData) (xs : List V) (ds : List PyData), vs = [x, .ref a] ∧ Dx K H x e ∧ Sq K H a xs ∧ DxAll K H xs ds ∧ (∀ d, d ∈ ds → Cpl d) ∧ ds.length ≤ 300 ∧ (e ≠ .none → Cpl e) ∧
  ∀ y H', Same H H' → (y = .non ↔ e ≠ .none ∧ eqC e) → Q y H'
theorem ok_fo (T : Tx K mg) : FnOk P w K mg base CX0 4 T.afact_of T.dfact_of ["conclusion", "conditions"] (spFo K) := by
  have nd := sc_fact_of.nd
  have G := ok_po (P := P) (w := w) (base := base) T
  refine T.ffact_of.ok sc_fact_of (fun vs H Q E h => ?_) (fun cdv A outer s H vs Q E hr h => ?_)
  · obtain ⟨a, x, e, xs, ds, rfl, _⟩ := h
    rfl
  obtain ⟨a, x, e, xs, ds, rfl, hx, ha, hd, hc, few, ce, q⟩ := h
  refine ⟨_, (pss_cons (ps_set (i := 2) nd rfl (.inl rfl) (pe_call G (hr.mono (by omega)) (by rfl) T.gpairs_of T.fpairs_of.kp T.npairs_of .nil pass0 (pa_cons (pv 1) pa_nil)))
      (pss_cons (ps_if (pt_cmpR op_isN (pv 0) pe_non (nomark _)) (pss_one (ps_ret (pe_tup (pa_cons (pv 2) (pa_cons pe_non pa_nil))))) pss_nil)
      (pss_cons (ps_set (i := 3) nd rfl (.inl rfl) (pe_call G (hr.mono (by omega)) (by rfl) T.gpairs_of T.fpairs_of.kp T.npairs_of .nil pass0 (pa_cons (pe_lst (pa_cons (pv 0) pa_nil)) pa_nil)))
      (pss_one (ps_ret (pe_ifExp (pt_truth (pv 3) (by intro _; rfl)) (pe_tup (pa_cons (pv 2) (pa_cons (pe_ix ix_tup (pv 3) pe_int (fun _ _ => rfl)) pa_nil))) pe_non)))))), ?_⟩
  refine ⟨_, rfl, a, xs, ds, rfl, ha, hd, hc, few, fun p vs H1 s1 hp _ => ?_⟩
  refine ⟨_, rfl, rfl, _, rfl, ?_⟩
  by_cases ex : x = .non
  · have ee := (dx_nil hx).mpr ex
    subst ex
    refine iteT ⟨_, rfl, by show 2 ≤ sizeLine; decide, fun p2 np2 => q _ _ (s1.trans (same_put np2)) ?_⟩
    exact Iff.intro (fun z => by cases z) fun z => absurd ee z.1
  · have ee : e ≠ .none := fun z => ex ((dx_nil hx).mp z)
    rw [decide_eq_false ex]
    refine iteF ?_
    obtain ⟨ta, tb, rfl, wa, wb⟩ := ce ee
    refine ⟨_, rfl, by show 1 ≤ sizeLine; decide, fun l nl => ?_⟩
    have s2 := s1.trans (same_put (o := .lst [x]) nl)
    have el : (upd H1 l (.lst [x])) l = some (.lst [x]) := upd_same
    have hp1 := same_put (o := .lst [x]) nl _ _ hp
    generalize upd H1 l (.lst [x]) = H2 at s2 el hp1 ⊢
    refine ⟨l, [x], [.tuple [ta, tb]], rfl, .inl (SqL.of el), .cons (hx.up s2) .nil, fun d hd => ?_, by simp, fun p3 vs3 H3 s3 hp3 e3 => ?_⟩
    · rw [List.mem_singleton.mp hd]
      exact ⟨ta, tb, rfl, wa, wb⟩
    · have e4 : vs3 = [] ↔ tx ta = tx tb := e3.trans (Iff.intro (fun z => z _ (List.mem_singleton_self _)) fun z d hd => by rw [List.mem_singleton.mp hd]; exact z)
      refine ⟨_, rfl, _, .inr (.inl ⟨vs3, SqT.of hp3, rfl⟩), ?_⟩
      cases vs3 with
      | nil => exact iteF (q _ _ (s2.trans s3) (Iff.intro (fun _ => ⟨ee, e4.mp rfl⟩) fun _ => rfl))
      | cons y ys =>
        refine iteT ⟨_, rfl, _, rfl, p3, _, 0, y, rfl, rfl, SqT.of hp3, atI_nat (j := 0) rfl, by show 2 ≤ sizeLine; decide, fun l2 nl2 => q _ _ (s2.trans (s3.trans (same_put nl2))) ?_⟩
        exact Iff.intro (fun z => by cases z) fun z => absurd (e4.mpr z.2) (by simp)
end
end K14
/-! What the functions of facts raise. -/
namespace K14
open PySem PySem.Spec PyProof.Rows L2 Kx
section
variable {P : Program} {w : World} {K : PySem.W.Frag} {mg : Str → Option Value} {base : Heap}
theorem noB {b : Bool} {p : Prop} (h : b = false) : b = true → p := fun z => by rw [h] at z; cases z
def spBadF (K : PySem.W.Frag) (C : Addr) : Sp := fun vs H Q E => ∃ (x : V) (d : PyData), vs = [x] ∧ Fz K H x d ∧ factD d = false ∧ ∀ H', Same H H' → E (.ref C) none H'
theorem ok_pin (T : Tx K mg) : FnOk P w K mg base (L2.CX P w) 7 T.aplaces_in T.dplaces_in ["fact"] (spBadF K T.CInvalidFact) := by
  have G := ok_ckf (P := P) (w := w) (base := base) T
  refine T.fplaces_in.okX sc_places_in (fun vs H Q E h => ?_) (fun cdv A outer s H vs Q E hr h => ?_)
  · obtain ⟨x, d, rfl, _⟩ := h
    rfl
  · obtain ⟨x, d, rfl, hx, td, q⟩ := h
    exact ⟨_, pss_cons (ps_expr (pe_call G (hr.mono (by omega)) (by rfl) T.gcheck_fact T.fcheck_fact.kp T.ncheck_fact .nil (passes_call (takes_of rfl rfl rfl rfl) (fun _ _ _ _ h => h)) (pa_cons (pv 0) pa_nil))) pss_false, _, rfl, _, _, rfl, hx, noB td, fun _ => q⟩
theorem ok_tof (T : Tx K mg) : FnOk P w K mg base (L2.CX P w) 7 T.aterms_of T.dterms_of ["fact"] (spBadF K T.CInvalidFact) := by
  have G := ok_ckf (P := P) (w := w) (base := base) T
  refine T.fterms_of.okX sc_terms_of (fun vs H Q E h => ?_) (fun cdv A outer s H vs Q E hr h => ?_)
  · obtain ⟨x, d, rfl, _⟩ := h
    rfl
  · obtain ⟨x, d, rfl, hx, td, q⟩ := h
    exact ⟨_, pss_cons (ps_expr (pe_call G (hr.mono (by omega)) (by rfl) T.gcheck_fact T.fcheck_fact.kp T.ncheck_fact .nil (passes_call (takes_of rfl rfl rfl rfl) (fun _ _ _ _ h => h)) (pa_cons (pv 0) pa_nil))) pss_false, _, rfl, _, _, rfl, hx, noB td, fun _ => q⟩
theorem ok_nof (T : Tx K mg) : FnOk P w K mg base (L2.CX P w) 7 T.anodes_of T.dnodes_of ["fact"] (spBadF K T.CInvalidFact) := by
  have G := ok_ckf (P := P) (w := w) (base := base) T
  refine T.fnodes_of.okX sc_nodes_of (fun vs H Q E h => ?_) (fun cdv A outer s H vs Q E hr h => ?_)
  · obtain ⟨x, d, rfl, _⟩ := h
    rfl
  · obtain ⟨x, d, rfl, hx, td, q⟩ := h
    exact ⟨_, pss_cons (ps_expr (pe_call G (hr.mono (by omega)) (by rfl) T.gcheck_fact T.fcheck_fact.kp T.ncheck_fact .nil (passes_call (takes_of rfl rfl rfl rfl) (fun _ _ _ _ h => h)) (pa_cons (pv 0) pa_nil))) pss_false, _, rfl, _, _, rfl, hx, noB td, fun _ => q⟩
theorem ok_ftx (T : Tx K mg) : FnOk P w K mg base (L2.CX P w) 7 T.afact_text T.dfact_text ["fact"] (spBadF K T.CInvalidFact) := by
  have G := ok_ckf (P := P) (w := w) (base := base) T
  refine T.ffact_text.okX sc_fact_text (fun vs H Q E h => ?_) (fun cdv A outer s H vs Q E hr h => ?_)
  · obtain ⟨x, d, rfl, _⟩ := h
    rfl
  · obtain ⟨x, d, rfl, hx, td, q⟩ := h
    exact ⟨_, pss_cons (ps_expr (pe_call G (hr.mono (by omega)) (by rfl) T.gcheck_fact T.fcheck_fact.kp T.ncheck_fact .nil (passes_call (takes_of rfl rfl rfl rfl) (fun _ _ _ _ h => h)) (pa_cons (pv 0) pa_nil))) pss_false, _, rfl, _, _, rfl, hx, noB td, fun _ => q⟩
/-- make_pair, which raises one or another error -/
def spMp (K : PySem.W.Frag) (CT CO CF : Addr) : Sp := fun vs H Q E => ∃ (x y : V) (d e : PyData), vs = [x, y] ∧ Dz K H x d ∧ Dz K H y e ∧ (termD d = true → termD e = true → Wr d ∧ Wr e ∧ szD d + szD e ≤ 10000) ∧
  (((termD d && termD e) = false ∧ ∀ H', Same H H' → E (.ref CT) none H') ∨ ((termD d && termD e) = true ∧ tx d = tx e ∧ ∀ H', Same H H' → E (.ref CO) none H') ∨ ((termD d && termD e) = true ∧ ¬ tx d = tx e ∧ jointD [d, e] = false ∧ ∀ H', Same H H' → E (.ref CF) none H'))
theorem ok_mp (T : Tx K mg) : FnOk P w K mg base (L2.CX P w) 7 T.amake_pair T.dmake_pair ["term", "other"] (spMp K T.CInvalidTerm T.CInvalidOperation T.CInvalidFact) := by
  have nd := sc_make_pair.nd
  have GT := ok_ck (P := P) (w := w) (base := base) T
  have GP := ok_po (P := P) (w := w) (base := base) T
  have GJ := ok_jointL (P := P) (w := w) (base := base) T
  refine T.fmake_pair.okX sc_make_pair (fun vs H Q E h => ?_) (fun cdv A outer s H vs Q E hr h => ?_)
  · obtain ⟨x, y, d, e, rfl, _⟩ := h
    rfl
  obtain ⟨x, y, d, e, rfl, hx, hy, hw, h⟩ := h
  refine ⟨_, (pss_cons (ps_expr (pe_call GT (hr.mono (by omega)) (by rfl) T.gcheck_term T.fcheck_term.kp T.ncheck_term .nil (passes_call (takes_of rfl rfl rfl rfl) (fun _ _ _ _ h => h)) (pa_cons (pv 0) pa_nil)))
      (pss_cons (ps_expr (pe_call GT (hr.mono (by omega)) (by rfl) T.gcheck_term T.fcheck_term.kp T.ncheck_term .nil (passes_call (takes_of rfl rfl rfl rfl) (fun _ _ _ _ h => h)) (pa_cons (pv 1) pa_nil)))
      (pss_cons (ps_set (i := 2) nd rfl (.inl rfl) (pe_call GP (hr.mono (by omega)) (by rfl) T.gpairs_of T.fpairs_of.kp T.npairs_of .nil pass0 (pa_cons (pe_lst (pa_cons (pe_tup (pa_cons (pv 0) (pa_cons (pv 1) pa_nil))) pa_nil)) pa_nil)))
      (pss_cons (ps_if (pt_not (pt_truth (pv 2) (by intro _; rfl))) (pss_one (ps_raise rfl (takes_of rfl rfl rfl rfl) (pmk_own PySem.F.excBase_ValueError T.xInvalidOperation T.gInvalidOperation T.kInvalidOperation (raises_own T.bInvalidOperation T.tInvalidOperation) (by rfl)))) pss_nil)
      (pss_cons (ps_if (pt_cmpR op_isN (pe_call GJ (hr.mono (by omega)) (by rfl) T.gjoint_places T.fjoint_places.kp T.njoint_places .nil pass0 (pa_cons (pe_lst (pa_cons (pv 0) (pa_cons (pv 1) pa_nil))) pa_nil)) pe_non (nomark _)) (pss_one (ps_raise rfl (takes_of rfl rfl rfl rfl) (pmk_own PySem.F.excBase_ValueError T.xInvalidFact T.gInvalidFact T.kInvalidFact (raises_own T.bInvalidFact T.tInvalidFact) (by rfl)))) pss_nil)
      pss_false))))), ?_⟩
  rcases h with ⟨td, q⟩ | h
  · exact ⟨_, rfl, x, d, rfl, hx, fun t1 H1 s1 => ⟨_, rfl, _, _, rfl, hy.up s1, noB (by rw [t1] at td; simpa using td), fun _ H2 s2 => q H2 (s1.trans s2)⟩, fun _ => q⟩
  have tt : termD d = true ∧ termD e = true := by
    rcases h with ⟨h, _⟩ | ⟨h, _⟩ <;> simpa using h
  obtain ⟨wd, we, wz⟩ := hw tt.1 tt.2
  refine ⟨_, rfl, x, d, rfl, hx, fun _ H1 s1 => ⟨_, rfl, y, e, rfl, hy.up s1, fun _ H2 s2 => ?_, fun z => by rw [tt.2] at z; cases z⟩, fun z => by rw [tt.1] at z; cases z⟩
  have s12 := s1.trans s2
  refine ⟨_, rfl, _, rfl, by show 2 ≤ sizeLine; decide, fun c nc => ⟨by show 1 ≤ sizeLine; decide, fun l nl => ?_⟩⟩
  have sc := same_put (o := .tup [x, y]) nc
  have sl := same_put (o := .lst [.ref c]) nl
  have s3 := s12.trans (sc.trans sl)
  have ec := sl _ _ (upd_same : (upd H2 c (.tup [x, y])) c = _)
  have el : (upd (upd H2 c (.tup [x, y])) l (.lst [.ref c])) l = some (.lst [.ref c]) := upd_same
  generalize upd (upd H2 c (.tup [x, y])) l (.lst [.ref c]) = H3 at s3 ec el ⊢
  refine ⟨l, [.ref c], [.tuple [d, e]], rfl, .inl (SqL.of el), .cons (.tup ec (.cons (hx.1.up s3) (.cons (hy.1.up s3) .nil))) .nil, fun z hz => ?_, by simp, fun p vs H4 s4 hp ev => ?_⟩
  · rw [List.mem_singleton.mp hz]
    exact ⟨d, e, rfl, wd, we⟩
  have ev2 : vs = [] ↔ tx d = tx e := ev.trans (Iff.intro (fun z => z _ (List.mem_singleton_self _)) fun z k hk => by rw [List.mem_singleton.mp hk]; exact z)
  have s34 := s3.trans s4
  refine ⟨_, rfl, _, .inr (.inl ⟨vs, SqT.of hp, rfl⟩), ?_⟩
  rcases h with ⟨_, et, q⟩ | ⟨_, et, ej, q⟩
  · rw [ev2.mpr et]
    exact iteT (q _ s34)
  · cases vs with
    | nil => exact absurd (ev2.mp rfl) et
    | cons v vs =>
    refine iteF ⟨_, rfl, _, rfl, by show 2 ≤ sizeLine; decide, fun l2 nl2 => ?_⟩
    have s5 := s34.trans (same_put (o := .lst [x, y]) nl2)
    refine ⟨l2, [x, y], [d, e], rfl, SqL.of upd_same, .cons (hx.1.up s5) (.cons (hy.1.up s5) .nil), by simp [shortAll, hx.2.1, hy.2.1], by simp only [szAll]; omega, fun z H6 s6 h1 h2 => ?_⟩
    cases h1 ej
    exact ⟨rfl, _, rfl, iteT (q _ (s5.trans s6))⟩
end
end K14
/-! cut, as it raises. -/
namespace K14
open PySem PySem.Spec PyProof.Rows L2 Kx
section
variable {P : Program} {w : World} {K : PySem.W.Frag} {mg : Str → Option Value} {base : Heap}
/-- all pairs of a fact -/
def prsD : PyData → List PyData
  | .tuple [.tuple ps, e] => ps ++ endOf e
  | _ => []
/-- a fact's parts -/
theorem fact_shape {d : PyData} (h : factD d = true) : ∃ ps e, d = .tuple [.tuple ps, e] ∧ couplesD (ps ++ endOf e) = true := by
  match d, h with
  | .tuple [a, e], h =>
    match a, h with
    | .tuple ps, h =>
      have h : (couplesD (ps ++ endOf e) && ((ps ++ endOf e).all ordC && chainD (ps.map keyC))) = true := h
      rw [Bool.and_eq_true] at h
      exact ⟨ps, e, rfl, h.1⟩
theorem dx_fact {H : Hp} {x : V} {ps : List PyData} {e : PyData} (h : Dx K H x (.tuple [.tuple ps, e])) : ∃ (f t : Addr) (us : List V) (v : V), x = .ref f ∧ H f = some (.tup [.ref t, v]) ∧ H t = some (.tup us) ∧ DxAll K H us ps ∧ Dx K H v e := by
  obtain ⟨f, u, v, rfl, hf, hu, hv⟩ := dx_couple h
  cases hu with
  | @tup t us _ ht hus => exact ⟨f, t, us, v, rfl, hf, ht, hus, hv⟩
theorem fz_parts {H : Hp} {x : V} {ps : List PyData} {e : PyData} (h : Fz K H x (.tuple [.tuple ps, e])) : ps.length ≤ 100 ∧ (ps ++ endOf e).length ≤ 101 ∧ shortAll (ps ++ endOf e) = true ∧ szAll (ps ++ endOf e) ≤ 10000 := by
  have fps := h.few ps e rfl
  have sh2 : shortAll ps = true ∧ shortD e = true := by
    have : shortAll [.tuple ps, e] = true := h.sh
    simpa [shortAll, shortD] using this
  have sz := h.sz
  have l1 : (endOf e).length ≤ 1 := by cases e <;> simp [endOf]
  have z1 : szAll (endOf e) ≤ szD e := by cases e <;> simp [endOf, szAll, szD]
  refine ⟨fps, by rw [List.length_append]; omega, ?_, ?_⟩
  · rw [shortAll_append, sh2.1, Bool.true_and]
    have := sh2.2
    cases e <;> simp_all [endOf, shortAll]
  · rw [szAll_append]
    simp only [szD, szAll] at sz
    omega
def spCut (K : PySem.W.Frag) (CF : Addr) : Sp := fun vs H Q E => ∃ (x y : V) (d e : PyData), vs = [x, y] ∧ Fz K H x d ∧ Fz K H y e ∧ ((factD d && factD e) = false ∨ jointD (sidesD (prsD d ++ prsD e)) = false) ∧ ∀ H', Same H H' → E (.ref CF) none H'
theorem ok_cut (T : Tx K mg) : FnOk P w K mg base (L2.CX P w) 7 T.acut T.dcut ["fact", "second"] (spCut K T.CInvalidFact) := by
  have nd := sc_cut.nd
  have GF := ok_ckf (P := P) (w := w) (base := base) T
  have GI := ok_pi (P := P) (w := w) (base := base) T
  have GS := ok_sides (P := P) (w := w) (base := base) T
  have GJ := ok_jointL (P := P) (w := w) (base := base) T
  refine T.fcut.okX sc_cut (fun vs H Q E h => ?_) (fun cdv A outer s H vs Q E hr h => ?_)
  · obtain ⟨x, y, d, e, rfl, _⟩ := h
    rfl
  obtain ⟨x, y, d, e, rfl, hx, hy, h, q⟩ := h
  refine ⟨_, (pss_cons (ps_expr (pe_call GF (hr.mono (by omega)) (by rfl) T.gcheck_fact T.fcheck_fact.kp T.ncheck_fact .nil (passes_call (takes_of rfl rfl rfl rfl) (fun _ _ _ _ h => h)) (pa_cons (pv 0) pa_nil)))
      (pss_cons (ps_expr (pe_call GF (hr.mono (by omega)) (by rfl) T.gcheck_fact T.fcheck_fact.kp T.ncheck_fact .nil (passes_call (takes_of rfl rfl rfl rfl) (fun _ _ _ _ h => h)) (pa_cons (pv 1) pa_nil)))
      (pss_cons (ps_if (pt_cmpR op_isN (pe_call GJ (hr.mono (by omega)) (by rfl) T.gjoint_places T.fjoint_places.kp T.njoint_places .nil pass0 (pa_cons (pe_call GS (hr.mono (by omega)) (by rfl) T.gsides_of T.fsides_of.kp T.nsides_of .nil pass0 (pa_cons (pe_op op_cat (pe_call GI (hr.mono (by omega)) (by rfl) T.gpairs_in T.fpairs_in.kp T.npairs_in .nil pass0 (pa_cons (pv 0) pa_nil)) (pe_call GI (hr.mono (by omega)) (by rfl) T.gpairs_in T.fpairs_in.kp T.npairs_in .nil pass0 (pa_cons (pv 1) pa_nil))) pa_nil)) pa_nil)) pe_non (nomark _)) (pss_one (ps_raise rfl (takes_of rfl rfl rfl rfl) (pmk_own PySem.F.excBase_ValueError T.xInvalidFact T.gInvalidFact T.kInvalidFact (raises_own T.bInvalidFact T.tInvalidFact) (by rfl)))) pss_nil)
      pss_false))), ?_⟩
  cases td : factD d with
  | false => exact ⟨_, rfl, x, d, rfl, hx, noB td, fun _ => q⟩
  | true =>
  cases te : factD e with
  | false => exact ⟨_, rfl, x, d, rfl, hx, fun _ H1 s1 => ⟨_, rfl, y, e, rfl, hy.up s1, noB te, fun _ H2 s2 => q H2 (s1.trans s2)⟩, fun z => by rw [td] at z; cases z⟩
  | true =>
  have hj : jointD (sidesD (prsD d ++ prsD e)) = false := by
    rcases h with h | h
    · rw [td, te] at h
      cases h
    · exact h
  refine ⟨_, rfl, x, d, rfl, hx, fun _ H1 s1 => ⟨_, rfl, y, e, rfl, hy.up s1, fun _ H2 s2 => ?_, fun z => by rw [te] at z; cases z⟩, fun z => by rw [td] at z; cases z⟩
  have s12 := s1.trans s2
  obtain ⟨ps, c, rfl, hc⟩ := fact_shape td
  obtain ⟨ps2, c2, rfl, hc2⟩ := fact_shape te
  obtain ⟨f1, f2, f3, f4⟩ := fz_parts hx
  obtain ⟨g1, g2, g3, g4⟩ := fz_parts hy
  obtain ⟨f, t, us, v, rfl, hf, ht, hus, hv⟩ := dx_fact (hx.up s12).dx
  obtain ⟨f', t', us', v', rfl, hf', ht', hus', hv'⟩ := dx_fact (hy.up s12).dx
  refine ⟨_, rfl, f, t, us, v, ps, c, rfl, hf, ht, hus, hv, by omega, fun p ys H3 s3 np hp dy => ?_⟩
  refine ⟨_, rfl, f', t', us', v', ps2, c2, rfl, s3 _ _ hf', s3 _ _ ht', hus'.up s3, hv'.up s3, by omega, fun p' ys' H4 s4 np' hp' dy' => ?_⟩
  refine ⟨p, p', ys, ys', rfl, rfl, s4 _ _ hp, hp', ?_, fun l nl => ?_⟩
  · rw [dy.length, dy'.length]
    exact Nat.le_of_lt (small1000 (by omega))
  have s5 := same_put (o := .lst (ys ++ ys')) nl
  have ac : (prsD (.tuple [.tuple ps, c]) ++ prsD (.tuple [.tuple ps2, c2])).all coupleD = true := by
    have h1 : (ps ++ endOf c).all coupleD = true := by
      simp only [couplesD, Bool.and_eq_true] at hc
      exact hc.1
    have h2 : (ps2 ++ endOf c2).all coupleD = true := by
      simp only [couplesD, Bool.and_eq_true] at hc2
      exact hc2.1
    show ((ps ++ endOf c) ++ (ps2 ++ endOf c2)).all coupleD = true
    rw [List.all_append, h1, h2]
    rfl
  refine ⟨l, ys ++ ys', prsD (.tuple [.tuple ps, c]) ++ prsD (.tuple [.tuple ps2, c2]), rfl, SqL.of upd_same, (DxAll.append (dy.up s4) dy').up s5, ac, ?_, fun p3 ys3 H6 s6 hp3 dy3 => ?_⟩
  · show ((ps ++ endOf c) ++ (ps2 ++ endOf c2)).length ≤ 300
    rw [List.length_append]
    omega
  have sa : shortAll (prsD (.tuple [.tuple ps, c]) ++ prsD (.tuple [.tuple ps2, c2])) = true := by
    show shortAll ((ps ++ endOf c) ++ (ps2 ++ endOf c2)) = true
    rw [shortAll_append, f3, g3]
    rfl
  have za : szAll (prsD (.tuple [.tuple ps, c]) ++ prsD (.tuple [.tuple ps2, c2])) ≤ 100000 := by
    show szAll ((ps ++ endOf c) ++ (ps2 ++ endOf c2)) ≤ 100000
    rw [szAll_append]
    omega
  refine ⟨p3, ys3, _, rfl, SqL.of hp3, dy3, sides_short _ sa, Nat.le_trans (sides_sz _) za, fun z H7 s7 h1 h2 => ?_⟩
  cases h1 hj
  exact ⟨rfl, _, rfl, iteT (q _ (s12.trans (s3.trans (s4.trans (s5.trans (s6.trans s7))))))⟩
end
end K14
/-! changed. -/
namespace K14
open PySem PySem.Spec PyProof.Rows L2 Kx
section
variable {P : Program} {w : World} {K : PySem.W.Frag} {mg : Str → Option Value} {base : Heap}
def putC (o n : PyData) : PyData → PyData
  | .tuple [a, b] => .tuple [putD o n a, putD o n b]
  | d => d
theorem pure_puts {o n : PyData} (fn : formedD n = true) : ∀ {ps : List PyData}, (∀ d, d ∈ ps → ∃ a b, d = .tuple [a, b] ∧ Wr a ∧ Wr b) → pureAll (ps.map (putC o n)) = true
  | [], _ => rfl
  | d :: ps, h => by
    obtain ⟨a, b, rfl, wa, wb⟩ := h d List.mem_cons_self
    rw [List.map_cons, pureAll, pure_puts fn fun d hd => h d (List.mem_cons_of_mem _ hd)]
    simp [putC, pureD, pureAll, pure_formed _ (put_formed o n fn a wa.f), pure_formed _ (put_formed o n fn b wb.f)]
theorem termD_formed {d : PyData} (h : termD d = true) : formedD d = true := by
  simp only [termD, Bool.and_eq_true] at h
  exact h.1
def spCh (K : PySem.W.Frag) (CF CT : Addr) : Sp := fun vs H Q E => ∃ (x o n : V) (d eo en : PyData), vs = [x, o, n] ∧ Fz K H x d ∧ Dz K H o eo ∧ Dz K H n en ∧
  ((factD d = false ∧ ∀ H', Same H H' → E (.ref CF) none H') ∨ (factD d = true ∧ (termD eo && termD en) = false ∧ ∀ H', Same H H' → E (.ref CT) none H') ∨
    (factD d = true ∧ (termD eo && termD en) = true ∧ szAll ((prsD d).map (putC eo en)) ≤ 10000 ∧ shortAll ((prsD d).map (putC eo en)) = true ∧ (∀ a, a ∈ sidesD (prsD d) → (preD a).length + (preD eo).length ≤ 100000) ∧
      ((couplesD ((prsD d).map (putC eo en)) = false ∧ ∀ H', Same H H' → E (.ref CF) none H') ∨ (couplesD ((prsD d).map (putC eo en)) = true ∧ ∀ y H', Same H H' → Q y H'))))
theorem ok_ch (T : Tx K mg) : FnOk P w K mg base (L2.CX P w) 7 T.achanged T.dchanged ["fact", "old", "new"] (spCh K T.CInvalidFact T.CInvalidTerm) := by
  have nd := sc_changed.nd
  have GF := ok_ckf (P := P) (w := w) (base := base) T
  have GT := ok_ck (P := P) (w := w) (base := base) T
  have GI := ok_pi (P := P) (w := w) (base := base) T
  have GU := ok_put (P := P) (w := w) (base := base) T
  have GA := ok_are (P := P) (w := w) (base := base) T
  have GO := ok_fo (P := P) (w := w) (base := base) T
  refine T.fchanged.okX sc_changed (fun vs H Q E h => ?_) (fun cdv A outer s H vs Q E hr h => ?_)
  · obtain ⟨x, o, n, d, eo, en, rfl, _⟩ := h
    rfl
  obtain ⟨x, o, n, d, eo, en, rfl, hx, ho, hn, h⟩ := h
  refine ⟨_, (pss_cons (ps_expr (pe_call GF (hr.mono (by omega)) (by rfl) T.gcheck_fact T.fcheck_fact.kp T.ncheck_fact .nil (passes_call (takes_of rfl rfl rfl rfl) (fun _ _ _ _ h => h)) (pa_cons (pv 0) pa_nil)))
      (pss_cons (ps_expr (pe_call GT (hr.mono (by omega)) (by rfl) T.gcheck_term T.fcheck_term.kp T.ncheck_term .nil (passes_call (takes_of rfl rfl rfl rfl) (fun _ _ _ _ h => h)) (pa_cons (pv 1) pa_nil)))
      (pss_cons (ps_expr (pe_call GT (hr.mono (by omega)) (by rfl) T.gcheck_term T.fcheck_term.kp T.ncheck_term .nil (passes_call (takes_of rfl rfl rfl rfl) (fun _ _ _ _ h => h)) (pa_cons (pv 2) pa_nil)))
      (pss_cons (ps_setLc (i := 3) (own := [("one", 5), ("other", 6)]) (g := (gTup K 2 (gCons (gName 5) (gCons (gName 6) gNil)))) (tt := tYes) (by rfl) nd rfl rfl (sw_true rfl rfl rfl (by decide +kernel)) (pi_list (pe_call GI (hr.mono (by omega)) (by rfl) T.gpairs_in T.fpairs_in.kp T.npairs_in .nil pass0 (pa_cons (pv 0) pa_nil))) (blkOk_by (own := [("one", 5), ("other", 6)]) (N := N_changed) (sc := defScope s_changed) (by decide +kernel)) (fun _ _ _ _ _ => pg_tup rfl (pgs_cons (pg_name (i := 5) nd rfl (.inl rfl)) (pgs_cons (pg_name (i := 6) nd rfl (.inl rfl)) pgs_nil))) (fun _ _ _ _ _ => pts_nil) (fun _ _ _ _ _ => (pe_tup (pa_cons (pe_call GU (hr.mono (by omega)) (by rfl) T.gput_in T.fput_in.kp T.nput_in .nil pass0 (pa_cons (pv 5) (pa_cons (pv 1) (pa_cons (pv 2) pa_nil)))) (pa_cons (pe_call GU (hr.mono (by omega)) (by rfl) T.gput_in T.fput_in.kp T.nput_in .nil pass0 (pa_cons (pv 6) (pa_cons (pv 1) (pa_cons (pv 2) pa_nil)))) pa_nil)))))
      (pss_cons (ps_if (pt_not (pt_val (pe_call GA (hr.mono (by omega)) (by rfl) T.gare_couples T.fare_couples.kp T.nare_couples .nil pass0 (pa_cons (pv 3) pa_nil)))) (pss_one (ps_raise rfl (takes_of rfl rfl rfl rfl) (pmk_own PySem.F.excBase_ValueError T.xInvalidFact T.gInvalidFact T.kInvalidFact (raises_own T.bInvalidFact T.tInvalidFact) (by rfl)))) pss_nil)
      (pss_cons (ps_set (i := 4) nd rfl (.inl rfl) (pe_ifExp (pt_cmpR op_isN (pe_ix ix_tup (pv 0) pe_int (fun _ _ => rfl)) pe_non (nomark _)) pe_non (pe_bm0 PySem.F.plainAttrs_list PySem.F.slot_list_pop PySem.F.type_list_pop mt_pop (pv 3))))
      (pss_one (ps_ret (pe_call GO (hr.mono (by omega)) (by rfl) T.gfact_of T.ffact_of.kp T.nfact_of .nil pass0 (pa_cons (pv 4) (pa_cons (pv 3) pa_nil))))))))))), ?_⟩
  rcases h with ⟨td, q⟩ | ⟨td, tt, q⟩ | ⟨td, tt, sz, sh, hp, h⟩
  · exact ⟨_, rfl, x, d, rfl, hx, noB td, fun _ => q⟩
  · refine ⟨_, rfl, x, d, rfl, hx, fun _ H1 s1 => ⟨_, rfl, o, eo, rfl, ho.up s1, fun t1 H2 s2 => ⟨_, rfl, _, _, rfl, hn.up (s1.trans s2), noB (by rw [t1] at tt; simpa using tt), fun _ H3 s3 => q H3 (s1.trans (s2.trans s3))⟩, fun _ H2 s2 => q H2 (s1.trans s2)⟩, fun z => by rw [td] at z; cases z⟩
  have t2 : termD eo = true ∧ termD en = true := by simpa using tt
  refine ⟨_, rfl, x, d, rfl, hx, fun _ H1 s1 => ⟨_, rfl, o, eo, rfl, ho.up s1, fun _ H2 s2 => ⟨_, rfl, n, en, rfl, hn.up (s1.trans s2), fun _ H3 s3 => ?_, fun z => by rw [t2.2] at z; cases z⟩, fun z => by rw [t2.1] at z; cases z⟩, fun z => by rw [td] at z; cases z⟩
  have s13 := s1.trans (s2.trans s3)
  obtain ⟨ps, c, rfl, hc⟩ := fact_shape td
  obtain ⟨f1, f2, f3, f4⟩ := fz_parts hx
  obtain ⟨f, t, us, v, rfl, hf, ht, hus, hv⟩ := dx_fact (hx.up s13).dx
  have wr := couples_wr hc f4
  have fo := termD_formed t2.1
  have fn := termD_formed t2.2
  have ep : prsD (.tuple [.tuple ps, c]) = ps ++ endOf c := rfl
  rw [ep] at sz sh hp h
  refine ⟨_, rfl, f, t, us, v, ps, c, rfl, hf, ht, hus, hv, by omega, fun p ys H4 s4 np hp4 dy => ?_⟩
  refine ⟨p, rfl, ⟨_, SqL.of hp4⟩, fun D nD => ?_⟩
  have s14 := s13.trans s4
  have ly := dy.length
  refine lc_list (K := K) (a := p) (xs := ys) (fun i G => Same H4 G ∧ ∃ zs, G D = some (.lst zs) ∧ DxAll K G zs (((ps ++ endOf c).take i).map (putC eo en))) ⟨same_put nD, [], upd_same, .nil⟩ (fun i G _ h => SqL.of (h.1 _ _ hp4)) ?_ ?_
  · rintro i y G hi ⟨sG, zs, eD, dz⟩
    have lti : i < (ps ++ endOf c).length := by rw [← ly]; exact (List.getElem?_eq_some_iff.mp hi).1
    have gd := List.getElem?_eq_getElem lti
    obtain ⟨v2, hv2, dv⟩ := dy.get gd
    rw [hi] at hv2
    cases hv2
    obtain ⟨a, b, eab, wa, wb⟩ := wr _ (List.getElem_mem lti)
    have ms : ∀ z, z = a ∨ z = b → z ∈ sidesD (ps ++ endOf c) := fun z hz => List.mem_flatMap.mpr ⟨_, List.getElem_mem lti, by rw [eab]; rcases hz with rfl | rfl <;> simp [sidesOf]⟩
    have pa := hp a (ms a (.inl rfl))
    have pb := hp b (ms b (.inr rfl))
    rw [eab] at dv gd
    obtain ⟨q0, u, v3, rfl, hq0, du, dv3⟩ := dx_couple dv
    have sa := s14.trans sG
    refine ⟨q0, _, rfl, SqT.of (sG _ _ hq0), rfl, _, _, rfl, _, _, rfl, rfl, rfl, (iteT (B := False) ?_ : if true = true then _ else False)⟩
    refine ⟨_, rfl, _, rfl, _, rfl, u, o, n, a, eo, en, rfl, du.up sG, (ho.up sa).1, (hn.up sa).1, wa.f, fo, pa, fun v5 G5 s5 d5 => ?_⟩
    have sb := sa.trans s5
    refine ⟨_, rfl, _, rfl, _, rfl, v3, o, n, b, eo, en, rfl, dv3.up (sG.trans s5), (ho.up sb).1, (hn.up sb).1, wb.f, fo, pb, fun v6 G6 s6 d6 => ?_⟩
    refine ⟨by show 2 ≤ sizeLine; decide, fun k nk => ?_⟩
    have s7 := same_put (o := .tup [v5, v6]) nk
    have s57 := s5.trans (s6.trans s7)
    have eD7 := s57 _ _ eD
    have ek : (upd G6 k (.tup [v5, v6])) k = some (.tup [v5, v6]) := upd_same
    have d57 := d5.up (s6.trans s7)
    have d67 := d6.up s7
    generalize upd G6 k (.tup [v5, v6]) = G7 at s57 eD7 ek d57 d67 ⊢
    have tl := Tups.lst (ys := zs ++ [.ref k]) eD7
    refine ⟨zs, eD7, ?_, fun z oz hz => ?_, zs ++ [.ref k], upd_same, ?_⟩
    · rw [dz.length, List.length_map, List.length_take]
      exact small1000 (by omega)
    · rw [upd_ne (ne_of_none hz nD)]
      exact s57 _ _ (sG _ _ hz)
    · have e1 : ((ps ++ endOf c).take (i + 1)).map (putC eo en) = ((ps ++ endOf c).take i).map (putC eo en) ++ [.tuple [putD eo en a, putD eo en b]] := by
        rw [List.take_add_one, gd, List.map_append]
        rfl
      rw [e1]
      refine DxAll.append (DxAll.ts tl _ _ (pure_puts fn fun z hz => wr z (List.mem_of_mem_take hz)) (dz.up s57)) (.cons (.tup (tl _ _ ek) (.cons (Dx.ts tl _ _ (pure_formed _ (put_formed eo en fn a wa.f)) d57) (.cons (Dx.ts tl _ _ (pure_formed _ (put_formed eo en fn b wb.f)) d67) .nil))) .nil)
  · rintro G ⟨sG, zs, eD, dz⟩
    rw [ly, List.take_length] at dz
    have sa := s14.trans sG
    have l1 : ((ps ++ endOf c).map (putC eo en)).length ≤ 101 := by rw [List.length_map]; exact f2
    refine ⟨_, rfl, D, zs, (ps ++ endOf c).map (putC eo en), rfl, SqL.of eD, dz, sh, by omega, by omega, fun G6 s6 => ⟨_, rfl, ?_⟩⟩
    have sb := sa.trans s6
    rcases h with ⟨hcs, q⟩ | ⟨hcs, q⟩
    · rw [hcs]
      exact iteT (q _ sb)
    rw [hcs]
    have wr2 := couples_wr hcs sz
    have eD6 := s6 _ _ eD
    have dz6 := dz.up s6
    have hf6 := (s4.trans (sG.trans s6)) _ _ hf
    refine iteF ⟨_, rfl, f, _, 1, v, rfl, rfl, SqT.of hf6, atI_nat (j := 1) rfl, rfl, _, rfl, ?_⟩
    by_cases ev : v = .non
    · have ee := (dx_nil hv).mpr ev
      subst ev ee
      refine iteT ?_
      refine ⟨_, rfl, _, rfl, D, .non, .none, zs, _, rfl, .non, .inl (SqL.of eD6), dz6, fun z hz => ?_, by omega, fun z => absurd rfl z, fun y H7 s7 _ => q y H7 (sb.trans s7)⟩
      exact wr2 z hz
    · have ee : c ≠ .none := fun z => ev ((dx_nil hv).mp z)
      rw [decide_eq_false ev]
      refine iteF ?_
      rw [endOf_some ee, List.map_append] at dz6 wr2 l1
      obtain ⟨zs0, v9, rfl, d0, d9⟩ := snocDx dz6
      refine ⟨_, rfl, .inl ⟨rfl, _, .inl (.inl eD6)⟩, D, _, v9, rfl, rfl, eD6, by simp, ?_⟩
      rw [List.dropLast_concat]
      have tl := Tups.lst (ys := zs0) eD6
      have nDH : H D = none := by
        cases e : H D with
        | none => rfl
        | some z =>
          rw [s14 _ _ e] at nD
          cases nD
      have s8 : Same H (upd G6 D (.lst zs0)) := fun z oz hz => by
        rw [upd_ne (ne_of_none hz nDH)]
        exact sb _ _ hz
      have p9 : pureD (putC eo en c) = true := by
        have : pureAll ([c].map (putC eo en)) = true := pure_puts fn fun z hz => wr z (by rw [endOf_some ee]; exact List.mem_append_right _ hz)
        simpa [pureAll] using this
      have eD9 : (upd G6 D (.lst zs0)) D = some (.lst zs0) := upd_same
      refine ⟨_, rfl, _, rfl, D, v9, putC eo en c, zs0, ps.map (putC eo en), rfl, Dx.ts tl _ _ p9 d9, .inl (SqL.of eD9), DxAll.ts tl _ _ (pure_puts fn fun z hz => wr z (List.mem_append_left _ hz)) d0, fun z hz => wr2 z (List.mem_append_left _ hz), by rw [List.length_map]; omega, fun _ => wr2 _ (List.mem_append_right _ (List.mem_singleton_self _)), fun y H9 s9 _ => q y H9 (s8.trans s9)⟩
end
end K14
/-! fact_renamed_by. -/
namespace K14
open PySem PySem.Spec PyProof.Rows L2 Kx
theorem nodup_map {α β : Type} {f : α → β} : ∀ {l : List α}, l.Nodup → ((l.map f).Nodup ↔ ∀ x, x ∈ l → ∀ y, y ∈ l → f x = f y → x = y)
  | [], _ => by simp
  | a :: l, nd => by
    rw [List.nodup_cons] at nd
    rw [List.map_cons, List.nodup_cons, nodup_map nd.2, List.mem_map]
    constructor
    · rintro ⟨h1, h2⟩ x hx y hy e
      rcases List.mem_cons.mp hx with hx | hx
      · rcases List.mem_cons.mp hy with hy | hy
        · rw [hx, hy]
        · exact absurd ⟨y, hy, by rw [← e, hx]⟩ h1
      · rcases List.mem_cons.mp hy with hy | hy
        · exact absurd ⟨x, hx, by rw [e, hy]⟩ h1
        · exact h2 x hx y hy e
    · intro h
      refine ⟨fun ⟨y, hy, e⟩ => nd.1 ?_, fun x hx y hy e => h x (List.mem_cons_of_mem _ hx) y (List.mem_cons_of_mem _ hy) e⟩
      rw [← h y (List.mem_cons_of_mem _ hy) a List.mem_cons_self e]
      exact hy
section
variable {P : Program} {w : World} {K : PySem.W.Frag} {mg : Str → Option Value} {base : Heap}
/-- the names of terms -/
def namesL (ds : List PyData) : List Str := (rowsAll ds).map Prod.fst
def ApL (m : List (Str × Str)) (ns : List Str) : Prop := ∀ x, x ∈ ns → ∀ y, y ∈ ns → nmOf m x = nmOf m y → x = y
theorem apartL {m : List (Str × Str)} {ds : List PyData} {ms : List NK} (nd : (ms.map Prod.fst).Nodup) (mem : ∀ r, r ∈ ms ↔ r ∈ rowsAll ds) : Apart m (ms.map Prod.fst) ↔ ApL m (namesL ds) := by
  have e : ∀ x, x ∈ ms.map Prod.fst ↔ x ∈ namesL ds := fun x => by
    rw [namesL, List.mem_map, List.mem_map]
    exact exists_congr fun r => by rw [mem r]
  unfold Apart ApL
  rw [nodup_map nd]
  constructor
  · exact fun h x hx y hy => h x ((e x).mpr hx) y ((e y).mpr hy)
  · exact fun h x hx y hy => h x ((e x).mp hx) y ((e y).mp hy)
def renC (f : Str → Str) : PyData → PyData
  | .tuple [a, b] => .tuple [renD f a, renD f b]
  | d => d
theorem pure_cpl : ∀ {l : List PyData}, (∀ d, d ∈ l → Cpl d) → pureAll l = true
  | [], _ => rfl
  | d :: l, h => by
    obtain ⟨a, b, rfl, wa, wb⟩ := h d List.mem_cons_self
    rw [pureAll, pure_cpl fun d hd => h d (List.mem_cons_of_mem _ hd)]
    simp [pureD, pureAll, pure_formed _ wa.f, pure_formed _ wb.f]
def spFr (P : Program) (w : World) (K : PySem.W.Frag) (CF CN CO : Addr) : Sp := fun vs H Q E => ∃ (x n : V) (d : PyData), vs = [x, n] ∧ Fz K H x d ∧
  ((factD d = false ∧ ∀ H', Same H H' → E (.ref CF) none H') ∨
    (factD d = true ∧ szD d ≤ 1000 ∧ BadNm P w K H n ∧ ∀ H', Same H H' → E (.ref CN) none H') ∨
    (factD d = true ∧ szD d ≤ 1000 ∧ ∃ (a : Addr) (m : List (Str × Str)), n = .ref a ∧ H a = some (.dK (strD m)) ∧ (∀ x y, (x, y) ∈ m → isNm x = true ∧ isNm y = true) ∧ (m.map Prod.fst).Nodup ∧ m.length ≤ 1000 ∧
      ((¬ ApL m (namesL (sidesD (prsD d))) ∧ ∀ H', Same H H' → E (.ref CO) none H') ∨
        (ApL m (namesL (sidesD (prsD d))) ∧ couplesD ((prsD d).map (renC (nmOf m))) = true ∧ szAll ((prsD d).map (renC (nmOf m))) ≤ 10000 ∧ (∀ a, a ∈ sidesD (prsD d) → (preD a).length ≤ 100000) ∧ ∀ y H', Same H H' → Q y H'))))
theorem ok_fr (T : Tx K mg) : FnOk P w K mg base (L2.CX P w) 7 T.afact_renamed_by T.dfact_renamed_by ["fact", "names"] (spFr P w K T.CInvalidFact T.CInvalidName T.CInvalidOperation) := by
  have nd := sc_fact_renamed_by.nd
  have GF := ok_ckf (P := P) (w := w) (base := base) T
  have GR := ok_rn (P := P) (w := w) (base := base) T
  have GI := ok_pi (P := P) (w := w) (base := base) T
  have GS := ok_sides (P := P) (w := w) (base := base) T
  have GJ := ok_jointL (P := P) (w := w) (base := base) T
  have GU := ok_with (P := P) (w := w) (base := base) T
  have GO := ok_fo (P := P) (w := w) (base := base) T
  refine T.ffact_renamed_by.okX sc_fact_renamed_by (fun vs H Q E h => ?_) (fun cdv A outer s H vs Q E hr h => ?_)
  · obtain ⟨x, n, d, rfl, _⟩ := h
    rfl
  obtain ⟨x, n, d, rfl, hx, h⟩ := h
  refine ⟨_, (pss_cons (ps_expr (pe_call GF (hr.mono (by omega)) (by rfl) T.gcheck_fact T.fcheck_fact.kp T.ncheck_fact .nil (passes_call (takes_of rfl rfl rfl rfl) (fun _ _ _ _ h => h)) (pa_cons (pv 0) pa_nil)))
      (pss_cons (ps_expr (pe_call GR (hr.mono (by omega)) (by rfl) T.gcheck_renaming T.fcheck_renaming.kp T.ncheck_renaming .nil (passes_call (takes_of rfl rfl rfl rfl) (fun _ _ _ _ h => h)) (pa_cons (pe_call GJ (hr.mono (by omega)) (by rfl) T.gjoint_places T.fjoint_places.kp T.njoint_places .nil pass0 (pa_cons (pe_call GS (hr.mono (by omega)) (by rfl) T.gsides_of T.fsides_of.kp T.nsides_of .nil pass0 (pa_cons (pe_call GI (hr.mono (by omega)) (by rfl) T.gpairs_in T.fpairs_in.kp T.npairs_in .nil pass0 (pa_cons (pv 0) pa_nil)) pa_nil)) pa_nil)) (pa_cons (pv 1) pa_nil))))
      (pss_cons (ps_setLc (i := 2) (own := [("one", 4), ("other", 5)]) (g := (gTup K 2 (gCons (gName 4) (gCons (gName 5) gNil)))) (tt := tYes) (by rfl) nd rfl rfl (sw_true rfl rfl rfl (by decide +kernel)) (pi_list (pe_call GI (hr.mono (by omega)) (by rfl) T.gpairs_in T.fpairs_in.kp T.npairs_in .nil pass0 (pa_cons (pv 0) pa_nil))) (blkOk_by (own := [("one", 4), ("other", 5)]) (N := N_fact_renamed_by) (sc := defScope s_fact_renamed_by) (by decide +kernel)) (fun _ _ _ _ _ => pg_tup rfl (pgs_cons (pg_name (i := 4) nd rfl (.inl rfl)) (pgs_cons (pg_name (i := 5) nd rfl (.inl rfl)) pgs_nil))) (fun _ _ _ _ _ => pts_nil) (fun _ _ _ _ _ => (pe_tup (pa_cons (pe_call GU (hr.mono (by omega)) (by rfl) T.gwith_names T.fwith_names.kp T.nwith_names .nil pass0 (pa_cons (pv 4) (pa_cons (pv 1) pa_nil))) (pa_cons (pe_call GU (hr.mono (by omega)) (by rfl) T.gwith_names T.fwith_names.kp T.nwith_names .nil pass0 (pa_cons (pv 5) (pa_cons (pv 1) pa_nil))) pa_nil)))))
      (pss_cons (ps_set (i := 3) nd rfl (.inl rfl) (pe_ifExp (pt_cmpR op_isN (pe_ix ix_tup (pv 0) pe_int (fun _ _ => rfl)) pe_non (nomark _)) pe_non (pe_bm0 PySem.F.plainAttrs_list PySem.F.slot_list_pop PySem.F.type_list_pop mt_pop (pv 2))))
      (pss_one (ps_ret (pe_call GO (hr.mono (by omega)) (by rfl) T.gfact_of T.ffact_of.kp T.nfact_of .nil pass0 (pa_cons (pv 3) (pa_cons (pv 2) pa_nil))))))))), ?_⟩
  cases td : factD d with
  | false =>
    rcases h with ⟨_, q⟩ | ⟨z, _⟩ | ⟨z, _⟩
    · exact ⟨_, rfl, x, d, rfl, hx, noB td, fun _ => q⟩
    · rw [td] at z; cases z
    · rw [td] at z; cases z
  | true =>
  refine ⟨_, rfl, x, d, rfl, hx, fun _ H1 s1 => ?_, fun z => by rw [td] at z; cases z⟩
  obtain ⟨ps, c, rfl, hc⟩ := fact_shape td
  obtain ⟨f1, f2, f3, f4⟩ := fz_parts hx
  obtain ⟨f, t, us, v, rfl, hf, ht, hus, hv⟩ := dx_fact (hx.up s1).dx
  have wr := couples_wr hc f4
  have ep : prsD (.tuple [.tuple ps, c]) = ps ++ endOf c := rfl
  rw [ep] at h
  have cj : (ps ++ endOf c).all coupleD = true ∧ jointD (sidesD (ps ++ endOf c)) = true := by
    simpa [couplesD] using hc
  refine ⟨_, rfl, f, t, us, v, ps, c, rfl, hf, ht, hus, hv, by omega, fun p ys H2 s2 np hp2 dy => ?_⟩
  refine ⟨p, ys, _, rfl, SqL.of hp2, dy, cj.1, by omega, fun p3 ys3 H3 s3 hp3 dy3 => ?_⟩
  refine ⟨p3, ys3, _, rfl, SqL.of hp3, dy3, sides_short _ f3, Nat.le_trans (sides_sz _) (by omega), fun z H4 s4 _ h2 => ?_⟩
  obtain ⟨pm, ms, rfl, npm, hpm, ndm, lms, mem⟩ := h2 cj.2
  have s14 := s1.trans (s2.trans (s3.trans s4))
  have z1000 : szD (.tuple [.tuple ps, c]) ≤ 1000 → ms.length ≤ 1000 := fun hz => by
    have z1 : szAll (endOf c) ≤ szD c := by cases c <;> simp [endOf, szAll, szD]
    have z2 := sides_sz (ps ++ endOf c)
    rw [szAll_append] at z2
    simp only [szD, szAll] at hz
    omega
  have npH : H pm = none := by
    cases e : H pm with
    | none => rfl
    | some o => rw [(s1.trans (s2.trans s3)) _ _ e] at npm; cases npm
  rcases h with ⟨z, _⟩ | ⟨_, hz, bad, q⟩ | ⟨_, hz, a, m, rfl, ha, hm, nm, lm, h⟩
  · rw [td] at z; cases z
  · exact ⟨_, rfl, pm, n, ms, rfl, hpm, z1000 hz, .inl ⟨bad.up s14, fun H5 s5 => q H5 (s14.trans s5)⟩⟩
  have npa : pm ≠ a := fun e => by rw [e, ha] at npH; cases npH
  refine ⟨_, rfl, pm, .ref a, ms, rfl, hpm, z1000 hz, .inr ⟨a, m, rfl, npa, s14 _ _ ha, hm, nm, lm, fun ap H5 s5 => ?_, fun nap H5 s5 => ?_⟩⟩
  · rcases h with ⟨nap, _⟩ | ⟨_, hcs, sz, hp, q⟩
    · exact absurd ((apartL ndm mem).mp ap) nap
    have s15 := s14.trans s5
    have wr2 := couples_wr hcs sz
    have back : ∀ {b : Addr} {o : HO}, H1 b = some o → H5 b = some o := fun {b o} e => s5 _ _ (s4 _ _ (s3 _ _ (s2 _ _ e)))
    have bS : Same H1 H5 := fun b o e => back e
    refine ⟨_, rfl, f, t, us, v, ps, c, rfl, back hf, back ht, hus.up bS, hv.up bS, by omega, fun p ys H6 s6 np hp6 dy => ?_⟩
    refine ⟨p, rfl, ⟨_, SqL.of hp6⟩, fun D nD => ?_⟩
    have s16 := s15.trans s6
    have ly := dy.length
    refine lc_list (K := K) (a := p) (xs := ys) (fun i G => Same H6 G ∧ ∃ zs, G D = some (.lst zs) ∧ DxAll K G zs (((ps ++ endOf c).take i).map (renC (nmOf m)))) ⟨same_put nD, [], upd_same, .nil⟩ (fun i G _ h => SqL.of (h.1 _ _ hp6)) ?_ ?_
    · rintro i y G hi ⟨sG, zs, eD, dz⟩
      have lti : i < (ps ++ endOf c).length := by rw [← ly]; exact (List.getElem?_eq_some_iff.mp hi).1
      have gd := List.getElem?_eq_getElem lti
      obtain ⟨v2, hv2, dv⟩ := dy.get gd
      rw [hi] at hv2
      cases hv2
      obtain ⟨a1, b1, eab, wa, wb⟩ := wr _ (List.getElem_mem lti)
      have ms : ∀ z, z = a1 ∨ z = b1 → z ∈ sidesD (ps ++ endOf c) := fun z hz => List.mem_flatMap.mpr ⟨_, List.getElem_mem lti, by rw [eab]; rcases hz with rfl | rfl <;> simp [sidesOf]⟩
      have pa := hp a1 (ms a1 (.inl rfl))
      have pb := hp b1 (ms b1 (.inr rfl))
      rw [eab] at dv gd
      obtain ⟨q0, u, v3, rfl, hq0, du, dv3⟩ := dx_couple dv
      have sa := s16.trans sG
      refine ⟨q0, _, rfl, SqT.of (sG _ _ hq0), rfl, _, _, rfl, _, _, rfl, rfl, rfl, (iteT (B := False) ?_ : if true = true then _ else False)⟩
      refine ⟨_, rfl, _, rfl, u, a, a1, m, rfl, du.up sG, .inl (sa _ _ ha), wa.f, pa, fun v5 G5 s5 d5 => ?_⟩
      have sb := sa.trans s5
      refine ⟨_, rfl, _, rfl, v3, a, b1, m, rfl, dv3.up (sG.trans s5), .inl (sb _ _ ha), wb.f, pb, fun v6 G6 s6 d6 => ?_⟩
      refine ⟨by show 2 ≤ sizeLine; decide, fun k nk => ?_⟩
      have s7 := same_put (o := .tup [v5, v6]) nk
      have s57 := s5.trans (s6.trans s7)
      have eD7 := s57 _ _ eD
      have ek : (upd G6 k (.tup [v5, v6])) k = some (.tup [v5, v6]) := upd_same
      have d57 := d5.up (s6.trans s7)
      have d67 := d6.up s7
      generalize upd G6 k (.tup [v5, v6]) = G7 at s57 eD7 ek d57 d67 ⊢
      have tl := Tups.lst (ys := zs ++ [.ref k]) eD7
      have e1 : ((ps ++ endOf c).take (i + 1)).map (renC (nmOf m)) = ((ps ++ endOf c).take i).map (renC (nmOf m)) ++ [.tuple [renD (nmOf m) a1, renD (nmOf m) b1]] := by
        rw [List.take_add_one, gd, List.map_append]
        rfl
      have cl : ∀ z, z ∈ ((ps ++ endOf c).take (i + 1)).map (renC (nmOf m)) → Cpl z := fun z hz => by
        obtain ⟨y, hy, rfl⟩ := List.mem_map.mp hz
        exact wr2 _ (List.mem_map.mpr ⟨y, List.mem_of_mem_take hy, rfl⟩)
      have pu := pure_cpl cl
      have du2 : DxAll K G7 (zs ++ [.ref k]) (((ps ++ endOf c).take (i + 1)).map (renC (nmOf m))) := by
        rw [e1]
        exact DxAll.append (dz.up s57) (.cons (.tup ek (.cons d57 (.cons d67 .nil))) .nil)
      refine ⟨zs, eD7, ?_, fun z oz hz => ?_, zs ++ [.ref k], upd_same, DxAll.ts tl _ _ pu du2⟩
      · rw [dz.length, List.length_map, List.length_take]
        exact small1000 (by omega)
      · rw [upd_ne (ne_of_none hz nD)]
        exact s57 _ _ (sG _ _ hz)
    · rintro G ⟨sG, zs, eD, dz⟩
      rw [ly, List.take_length] at dz
      have sb := s16.trans sG
      have l1 : ((ps ++ endOf c).map (renC (nmOf m))).length ≤ 101 := by rw [List.length_map]; exact f2
      have hf6 := (bS.trans (s6.trans sG)) _ _ hf
      refine ⟨_, rfl, f, _, 1, v, rfl, rfl, SqT.of hf6, atI_nat (j := 1) rfl, rfl, _, rfl, ?_⟩
      by_cases ev : v = .non
      · have ee := (dx_nil hv).mpr ev
        subst ev ee
        refine iteT ?_
        exact ⟨_, rfl, _, rfl, D, .non, .none, zs, _, rfl, .non, .inl (SqL.of eD), dz, fun z hz => wr2 z hz, by omega, fun z => absurd rfl z, fun y H7 s7 _ => q y H7 (sb.trans s7)⟩
      · have ee : c ≠ .none := fun z => ev ((dx_nil hv).mp z)
        rw [decide_eq_false ev]
        refine iteF ?_
        rw [endOf_some ee, List.map_append] at dz wr2 l1
        obtain ⟨zs0, v9, rfl, d0, d9⟩ := snocDx dz
        refine ⟨_, rfl, .inl ⟨rfl, _, .inl (.inl eD)⟩, D, _, v9, rfl, rfl, eD, by simp, ?_⟩
        rw [List.dropLast_concat]
        have tl := Tups.lst (ys := zs0) eD
        have nDH : H D = none := by
          cases e : H D with
          | none => rfl
          | some z =>
            rw [s16 _ _ e] at nD
            cases nD
        have s8 : Same H (upd G D (.lst zs0)) := fun z oz hz => by
          rw [upd_ne (ne_of_none hz nDH)]
          exact sb _ _ hz
        have c9 : Cpl (renC (nmOf m) c) := wr2 _ (List.mem_append_right _ (List.mem_singleton_self _))
        have p9 : pureD (renC (nmOf m) c) = true := by
          have : pureAll [renC (nmOf m) c] = true := pure_cpl fun z hz => by rw [List.mem_singleton.mp hz]; exact c9
          simpa [pureAll] using this
        have eD9 : (upd G D (.lst zs0)) D = some (.lst zs0) := upd_same
        exact ⟨_, rfl, _, rfl, D, v9, renC (nmOf m) c, zs0, ps.map (renC (nmOf m)), rfl, Dx.ts tl _ _ p9 d9, .inl (SqL.of eD9), DxAll.ts tl _ _ (pure_cpl fun z hz => wr2 z (List.mem_append_left _ hz)) d0, fun z hz => wr2 z (List.mem_append_left _ hz), by rw [List.length_map]; omega, fun _ => c9, fun y H9 s9 _ => q y H9 (s8.trans s9)⟩
  · rcases h with ⟨_, q⟩ | ⟨ap, _⟩
    · exact q H5 (s14.trans s5)
    · exact absurd ((apartL ndm mem).mpr ap) nap
end
end K14
/-! def f(x, **names): the keywords' dict. -/
namespace Kx
open PySem PySem.Spec PyProof.Rows L2
section
variable {P : Program} {w : World} {A : Around} {E : Value → Shared → Prop} {s : Shared} {d : Addr}
theorem mapM_str {kvs : List (Key × Value)} {es : List DictEntry} (p : Pairs (mixKind P w) es kvs) {x : Str} (n : ∀ v, (Sum.inr x, v) ∉ kvs) : (∀ e ∈ es, e.key.isStr x = false) ∧ ∀ e ∈ es, e.refKey = false := by
  induction p with
  | nil => exact ⟨fun e h => (nomatch h), fun e h => (nomatch h)⟩
  | @cons e kv es kvs h1 h2 t ih =>
    obtain ⟨i1, i2⟩ := ih fun v hv => n v (List.mem_cons_of_mem _ hv)
    have h1 : keyIs kv.1 e.key = true := h1
    constructor
    · intro c hc
      rcases List.mem_cons.mp hc with q | hc
      · subst q
        rcases keyIs_shape h1 with ⟨i, tk, _, ek⟩ | ⟨y, tk, ey, ek⟩
        · rw [ek]
          rfl
        · rw [ek]
          show (y == x) = false
          refine beq_eq_false_iff_ne.mpr fun q => n kv.2 ?_
          rw [← q, ← ey]
          exact List.mem_cons_self
      · exact i1 c hc
    · intro c hc
      rcases List.mem_cons.mp hc with q | hc
      · subst q
        rcases keyIs_shape h1 with ⟨i, tk, _, ek⟩ | ⟨y, tk, ey, ek⟩ <;> (unfold DictEntry.refKey; rw [ek])
      · exact i2 c hc
theorem nsSet_dict {kvs : List (Key × Value)} {x : Str} {v : Value} {Q : Unit → Shared → Prop} (dd : s.heap.DictOf (mixKind P w) d kvs) (n : ∀ v, (Sum.inr x, v) ∉ kvs)
    (h : ∀ h' t', h'.DictOf (mixKind P w) d (kvs ++ [(Sum.inr x, v)]) → Heap.SameBut d s.heap h' → Q () { s with heap := h', toks := t' }) : wpAny (model P w) A (nsSet d x v) Q E s := by
  obtain ⟨o, es, ep, ho, ⟨e1, e2, e3⟩, hd, hk, hp, nod⟩ := dd
  obtain ⟨cl, dc, dt, sl⟩ := o
  dsimp only at e1 e2 e3 hd
  subst e1 e2 e3 hd
  obtain ⟨m1, m2⟩ := mapM_str hp n
  have a1 : es.any (·.key.isStr x) = false := by
    rw [← Array.any_toList, List.any_eq_false]
    exact fun e he => by rw [m1 e he]; simp
  have a2 : es.any (·.refKey) = false := by
    rw [← Array.any_toList, List.any_eq_false]
    exact fun e he => by rw [m2 e he]; simp
  have c : aRefKeyMayBeTheName x es = false := by rw [aRefKeyMayBeTheName_at, a1, a2]; rfl
  have pn : ∀ (hs : Int) (key : Value), Obj.putName x hs key v { cls := .type "dict", dict := none, data := .dict es ep, slots := #[] } = { cls := .type "dict", dict := none, data := .dict (es.push ⟨hs, key, v⟩) (ep + 1), slots := #[] } := fun hs key => by
    have z := PySem.W.putName_dict x hs key v es.toList ep
    unfold PySem.W.dictOf at z
    rw [Array.toArray_toList] at z
    rw [z, PySem.W.putL_new m1]
    unfold PySem.W.putN
    have : es.toList.any (·.key.isStr x) = false := by rw [Array.any_toList]; exact a1
    simp [this]
    exact Array.ext' (by simp)
  unfold nsSet strHash
  refine wpAny_bind (wpAny_bind (wpAny_askSetting (wpAny_pure (wpAny_bind (wpAny_mkText (wpAny_bind (wpAny_loadPart ho ?_)))))))
  dsimp only
  rw [c]
  refine wpAny_updatePart ho (h _ _ ?_ ⟨by simp [Heap.update], fun b hb => Heap.get?_update_other _ _ (fun z => hb z.symm)⟩)
  refine ⟨{ cls := .type "dict", dict := none, data := .dict (es.push ⟨hashStr w x, .str x s.toks, v⟩) (ep + 1), slots := #[] }, es.push ⟨hashStr w x, .str x s.toks, v⟩, ep + 1, ?_, ⟨rfl, rfl, rfl⟩, rfl, hk.push (k := Sum.inr x) (key := .str x s.toks) (show keyIs (Sum.inr x) (.str x s.toks) = true from keyIs_str x _) v, ?_, ?_⟩
  · rw [Heap.get?_update_self _ ho (by rw [pn]; rfl), pn]
    rfl
  · rw [Array.toList_push]
    have : ∀ {es : List DictEntry} {kvs : List (Key × Value)}, Pairs (mixKind P w) es kvs → Pairs (mixKind P w) (es ++ [⟨hashStr w x, .str x s.toks, v⟩]) (kvs ++ [(Sum.inr x, v)]) := by
      intro es kvs p
      induction p with
      | nil => exact .cons (show keyIs (Sum.inr x) (.str x s.toks) = true from keyIs_str x _) rfl .nil
      | cons h1 h2 _ ih => exact .cons h1 h2 ih
    exact this hp
  · rw [List.map_append, List.nodup_append]
    refine ⟨nod, by simp, fun a ha b hb => ?_⟩
    simp at hb
    subst hb
    rintro rfl
    obtain ⟨⟨k1, v1⟩, m, e⟩ := List.mem_map.mp ha
    dsimp only at e
    subst e
    exact n v1 m
/-- the keywords are put in, one by one -/
theorem fill_dict {Q : PUnit → Shared → Prop} : ∀ (l : List (Str × Value)) (s : Shared) (kvs : List (Key × Value)), s.heap.DictOf (mixKind P w) d kvs → (l.map Prod.fst).Nodup → (∀ p, p ∈ l → ∀ v, (Sum.inr p.1, v) ∉ kvs) →
    (∀ h' t', h'.DictOf (mixKind P w) d (kvs ++ l.map fun p => (Sum.inr p.1, p.2)) → Heap.SameBut d s.heap h' → Q PUnit.unit { s with heap := h', toks := t' }) →
    wpAny (model P w) A (forIn l PUnit.unit fun x _ => (nsSet d x.1 x.2 >>= fun _ => pure (ForInStep.yield PUnit.unit))) Q E s
  | [], s, kvs, dd, _, _, h => by
    rw [List.forIn_nil]
    exact wpAny_pure (h s.heap s.toks (by simpa using dd) (Heap.SameBut.refl _ _))
  | p :: l, s, kvs, dd, nd, n, h => by
    rw [List.map_cons, List.nodup_cons] at nd
    rw [List.forIn_cons]
    refine wpAny_bind (wpAny_bind (nsSet_dict dd (n p List.mem_cons_self) fun h' t' dd' sb => wpAny_pure ?_))
    refine fill_dict l { s with heap := h', toks := t' } _ dd' nd.2 (fun q hq v hv => ?_) fun h'' t'' dd'' sb' => ?_
    · rcases List.mem_append.mp hv with hv | hv
      · exact n q (List.mem_cons_of_mem _ hq) v hv
      · have e := List.mem_singleton.mp hv
        rw [Prod.mk.injEq] at e
        have e1 := Sum.inr.inj e.1
        exact nd.1 (by rw [← e1]; exact List.mem_map.mpr ⟨q, hq, rfl⟩)
    · refine h h'' t'' ?_ (sb.trans sb')
      rw [List.append_assoc] at dd''
      exact dd''
end
/-- the keywords as a dict -/
def kwD (ks : List Str) (zs : List V) : List (Key × V) := (ks.zip zs).map fun p => (Sum.inr p.1, p.2)
section
variable {CX : CXT} {P : Program} {w : World} {K : PySem.W.Frag} {mg : Str → Option Value} {base : Heap} {k : Nat} {f : Addr} {name qual : Str} {params : Arguments} {body : List Stmt} {scope : Scope} {dV kV doc pm cdv ct oc : Value} {an od : Option Addr}
  {osl : Array (Option Value)} {N ks : List Str} {sp : Sp} {p1 pd : Str}
theorem kwD_rel {ks : List Str} {zs : List V} {ws : List Value} (r : Vals zs ws) : KV (kwD ks zs) ((ks.zip ws).map fun p => (Sum.inr p.1, p.2)) := by
  induction r generalizing ks with
  | nil =>
    cases ks <;> exact .nil
  | cons h t ih =>
    cases ks with
    | nil => exact .nil
    | cons a ks => exact .cons ⟨rfl, h⟩ ih
/-- def f(x, **names) called with the keywords ks -/
theorem run_kw (lk : K.lookup f = some ⟨oc, od, .func (PySem.W.fnOf name qual params body scope dV kV doc pm an cdv ct), osl⟩) (hcd : PySem.W.codeIn K cdv qual = true) (S : FnScope N [p1, pd] scope) (hCX : StX.CXUp CX) (nk : ks.Nodup) (few : ks.length ≤ 100)
    (hb : ∀ (u : Value) (ws : List Value), ws.length = ks.length → bindArgs (PySem.W.fnOf name qual params body scope dV kV doc pm an cdv ct) ⟨[u], ks.zip ws⟩ =
      ((alloc ({ cls := .type "dict", data := .dict #[] } : Obj) : Sem Addr) >>= fun d => (forIn (ks.zip ws) PUnit.unit fun x _ => (nsSet d x.1 x.2 >>= fun _ => pure (ForInStep.yield PUnit.unit))) >>= fun _ => pure [(p1, u), (pd, Value.ref d)]))
    (hbody : ∀ (A : Around) (outer : List Env) (s : Shared) (H : Hp) (vs : List V) (Q : VK) (E : XK), Room k (A.deeper (envOfC qual scope s.heap.objs.size f cdv)) → sp vs H Q E →
      ∃ t, PSs (cxOf CX P w K mg base N qual scope f cdv A outer s H E) body t ∧ t { nx := fun _ H' => Q .non H', rt := Q } (L2.start N vs) H)
    {A : Around} {outer : List Env} {s : Shared} {H : Hp} {u : Value} {v : V} {ws : List Value} {zs : List V} {Q : VK} {E : XK} (hr : Room (k + 1) A) (e0 : Env0 P w K mg base A outer s H) (ru : RelV v u) (rz : Vals zs ws) (lz : zs.length = ks.length)
    (h : ∀ d, H d = none → sp [v, .ref d] (upd H d (.dK (kwD ks zs))) Q E) : codeAny (model P w) A (.call (.ref f) ⟨[u], ks.zip ws⟩) (CR CX outer P w H s Q E) s := by
  have hn : H s.heap.objs.size = none := e0.hok.fresh (Nat.le_refl _)
  have lw : ws.length = ks.length := by rw [← rz.length]; exact lz
  refine StX.run_bnd lk hcd S hr e0 (G := fun xs H2 => ∃ d, H d = none ∧ xs = [v, .ref d] ∧ H2 = upd H d (.dK (kwD ks zs))) (fun A' Ex Q' q => ?_) fun s2 H2 xs ⟨d, hd, ex, eH⟩ hr' => ?_
  · rw [hb u ws lw]
    refine wpAny_bind (wpAny_alloc (wpAny_bind (fill_dict (ks.zip ws) _ [] (Heap.DictOf.new s.heap) ?_ (fun _ _ _ h => nomatch h) fun h' t' dd sb => wpAny_pure ?_)))
    · rw [List.map_fst_zip (by omega)]
      exact nk
    · have kp : ∀ b o, s.heap.get? b = some o → h'.get? b = some o := fun b o e => (sb.2 b (Nat.ne_of_lt (Heap.lt_size e))).trans (Heap.get?_push_of_some _ e)
      have big := StX.env0_big e0
      have ln : (kwD ks zs).length ≤ 100 := by
        rw [kwD, List.length_map, List.length_zip]
        omega
      have new : ObjOk P w (upd H s.heap.objs.size (.dK (kwD ks zs))) h' s.heap.objs.size (.dK (kwD ks zs)) :=
        dk_new (Nat.le_trans ln (by decide)) (beq_eq_false_iff_ne.mpr (Ne.symm (Nat.ne_of_lt big))) (kwD_rel rz) (by simpa using dd)
      have un : Un (frs outer) [] H (upd H s.heap.objs.size (.dK (kwD ks zs))) s.heap h' := Un.laid kp (Nat.le_refl _) hn
      have e1 : Env0 P w K mg base A outer { s with heap := h', toks := t' } (upd H s.heap.objs.size (.dK (kwD ks zs))) := by
        refine ⟨e0.frames, e0.mod, fun b o e => ⟨kp b o (e0.bs b o e).1, ?_⟩, ?_, Heap.FunFrames.of_keeps (fun b o e _ => ⟨o, kp b o e, rfl⟩) e0.funs, fun b hb => ?_, e0.hok.laid kp (Nat.le_refl _) new, e0.bare⟩
        · rw [upd_ne (Nat.ne_of_lt (Heap.lt_size (e0.bs b o e).1))]
          exact (e0.bs b o e).2
        · have z := sb.1
          show base.objs.size ≤ h'.objs.size
          rw [z, Heap.size_push]
          exact Nat.le_succ_of_le e0.bsz
        · obtain ⟨_, o, ho, _⟩ := e0.funs.mem hb
          rw [upd_ne (Nat.ne_of_lt (Heap.lt_size ho))]
          exact e0.frf b hb
      exact q _ _ [v, .ref s.heap.objs.size] [u, .ref s.heap.objs.size] e1 un rfl (fun e s' => hCX outer s H _ _ E e s' un kp rfl) (.cons ru (.cons rfl .nil)) rfl ⟨_, hn, rfl, rfl⟩
  · subst ex eH
    exact hbody A outer s2 _ _ Q E hr' (h d hd)
/-- a def f(x, **names) keeps sp, called with the keywords ks -/
def KwR (P : Program) (w : World) (K : PySem.W.Frag) (mg : Str → Option Value) (base : Heap) (CX : CXT) (k : Nat) (f : Addr) (ks : List Str) (sp : Sp) : Prop :=
  ∀ (A : Around) (outer : List Env) (s : Shared) (H : Hp) (u : Value) (v : V) (ws : List Value) (zs : List V) (Q : VK) (E : XK), Room k A → Env0 P w K mg base A outer s H → RelV v u → Vals zs ws → zs.length = ks.length →
    (∀ d, H d = none → sp [v, .ref d] (upd H d (.dK (kwD ks zs))) Q E) → codeAny (model P w) A (.call (.ref f) ⟨[u], ks.zip ws⟩) (CR CX outer P w H s Q E) s
theorem KwR.none (R : KwR P w K mg base CX k f [] sp) : L2.FnR P w K mg base CX k f (fun vs H Q E => ∃ v, vs = [v] ∧ ∀ d, H d = none → sp [v, .ref d] (upd H d (.dK [])) Q E) := by
  intro A outer s H us vs Q E hr e0 r h
  obtain ⟨v, rfl, h⟩ := h
  obtain ⟨u, rfl, ru⟩ := r.one
  exact R A outer s H u v [] [] Q E hr e0 ru .nil rfl h
end
section
variable {X : Cx} {CX : CXT} {k : Nat} {f : Addr} {ks : List Str} {sp : Sp} {E : XK} {x : Str} {p pos : Pos} {e : Expr} {kws : List Keyword} {t tk : TA}
theorem pe_callKw (R : KwR X.prog X.w X.K X.mg X.base CX k f ks sp) (hr : Room k X.A) (hg : Gl X x) (hm : X.mg x = some (.ref f)) (hk : PySem.W.keepIn X.K (.ref f) = true) (hx : Passes CX X E) (ha : PA X [e] t) (hkw : PK X kws tk)
    (hall : (backToKw pos (keywordEach kws X.env)).all (·.1.isSome) = true := by rfl) (hks : (backToKw pos (keywordEach kws X.env)).filterMap (·.1) = ks := by rfl) (hdb : (x == ("__debug__" : Str)) = false := by decide)
    (he : starEach [e] X.env = (false, eval e X.env) :: starEach [] X.env := by rfl) (hpl : ((backTo pos (starEach [e] X.env)).any (·.1) || (backToKw pos (keywordEach kws X.env)).any (·.1.isNone)) = false := by rfl) :
    PE X (.Call (.Name x p) [e] kws pos) (fun σ H Q => t σ H fun vs H1 => tk σ H1 fun zs H2 => ∃ v, vs = [v] ∧ zs.length = ks.length ∧ ∀ d, H2 d = none → sp [v, .ref d] (upd H2 d (.dK (kwD ks zs))) Q E) := by
  refine ⟨fun pins s σ H Q I h => wpAny_Call_Name_kw (ld_glob I hg hm ?_ hdb)⟩
  refine PySem.W.callWith_KW (h₀ := X.base) I.ok.mod.kin hk hall (thn (ha.run pos pins s σ H _ I h) fun us s1 ⟨vs, H1, I1, r, q⟩ => ?_) hpl he
  refine thn (hkw.run pos pins s1 σ H1 _ I1 q) fun ws s2 ⟨zs, H2, I2, rz, v, ev, lz, q2⟩ => ⟨I2.kIn, ?_⟩
  subst ev
  obtain ⟨u, rfl, ru⟩ := r.one
  rw [hks]
  refine wpAny_call (codeAny_mono (R X.A X.stack s2 H2 u v ws zs Q E hr I2.env0 ru rz lz q2) fun r s' hq => ?_)
  cases r with
  | error e => exact hx pins σ H2 s2 e s' I2 hq
  | ok fl =>
    cases fl with
    | ret u => exact I2.after hq
    | _ => exact hq.elim
end
end Kx
/-! fact_renamed, make_fact. -/
namespace K14
open PySem PySem.Spec PyProof.Rows L2 Kx
section
variable {P : Program} {w : World} {K : PySem.W.Frag} {mg : Str → Option Value} {base : Heap}
theorem ok_frn (T : Tx K mg) {ks : List Str} (nk : ks.Nodup) (few : ks.length ≤ 100)
    (hb : ∀ (kV dc pm cd ct : Value) (an : Option Addr) (u : Value) (ws : List Value), ws.length = ks.length → bindArgs (PySem.W.fnOf "fact_renamed" "fact_renamed" (defArgs s_fact_renamed) (defBody s_fact_renamed) (defScope s_fact_renamed) .none kV dc pm an cd ct) ⟨[u], ks.zip ws⟩ =
      ((alloc ({ cls := .type "dict", data := .dict #[] } : Obj) : Sem Addr) >>= fun d => (forIn (ks.zip ws) PUnit.unit fun x _ => (nsSet d x.1 x.2 >>= fun _ => pure (ForInStep.yield PUnit.unit))) >>= fun _ => pure ([("fact", u), ("names", Value.ref d)] : List (Str × Value)))) :
    KwR P w K mg base (L2.CX P w) 8 T.afact_renamed ks (spFr P w K T.CInvalidFact T.CInvalidName T.CInvalidOperation) := by
  obtain ⟨oc, od, kV, doc, pm, an, cdv, ct, osl, ed, lk, hcd⟩ := T.ffact_renamed.ex
  have G := ok_fr (P := P) (w := w) (base := base) T
  rw [ed] at lk
  intro A outer s H u v ws zs Q E hr e0 ru rz lz h
  refine run_kw (N := N_fact_renamed) (sp := spFr P w K T.CInvalidFact T.CInvalidName T.CInvalidOperation) lk hcd sc_fact_renamed StX.cxUp nk few (fun u ws hl => hb _ _ _ _ _ _ u ws hl) (fun A outer s H vs Q E hr h => ?_) hr e0 ru rz lz h
  refine ⟨_, (pss_one (ps_ret (pe_call G (hr.mono (by omega)) (by rfl) T.gfact_renamed_by T.ffact_renamed_by.kp T.nfact_renamed_by .nil (passes_call (takes_of rfl rfl rfl rfl) (fun _ _ _ _ h => h)) (pa_cons (pv 0) (pa_cons (pv 1) pa_nil))))), ?_⟩
  obtain ⟨x, v2, d, rfl, rest⟩ := h
  exact ⟨_, rfl, _, rfl, x, v2, d, rfl, rest⟩
theorem ok_frn1 (T : Tx K mg) : KwR P w K mg base (L2.CX P w) 8 T.afact_renamed ["a"] (spFr P w K T.CInvalidFact T.CInvalidName T.CInvalidOperation) := ok_frn T (by decide) (by decide) fun kV dc pm cd ct an u ws hl => match ws, hl with | [_], _ => rfl
def spMfB (K : PySem.W.Frag) (CF : Addr) : Sp := fun vs H Q E => ∃ (x : V) (e : PyData) (a : Addr) (ws : List V) (ds : List PyData), vs = [x, .ref a] ∧ H a = some (.tup ws) ∧ Dx K H x e ∧ DxAll K H ws ds ∧ shortAll (ds ++ endOf e) = true ∧ szAll (ds ++ endOf e) ≤ 10000 ∧ ds.length ≤ 100 ∧
  (couplesD (ds ++ endOf e) = false ∨ (e ≠ .none ∧ eqC e)) ∧ ∀ H', Same H H' → E (.ref CF) none H'
def spMf (K : PySem.W.Frag) (CF : Addr) : Sp := fun vs H Q E => ∃ ws rest, vs = ws ++ rest ∧ ws.length = 1 ∧ rest.length ≤ sizeLine ∧ ∀ p, H p = none → spMfB K CF (ws ++ [V.ref p]) (upd H p (.tup rest)) Q E
theorem ok_mf (T : Tx K mg) : L2.FnR P w K mg base (L2.CX P w) 7 T.amake_fact (spMf K T.CInvalidFact) := by
  have nd := sc_make_fact.nd
  have GA := ok_are (P := P) (w := w) (base := base) T
  have GO := ok_fo (P := P) (w := w) (base := base) T
  obtain ⟨oc, od, kV, doc, pm, an, cdv, ct, osl, e, lk, hcd⟩ := T.fmake_fact.ex
  rw [e] at lk
  refine StX.fn_star (ps := ["conclusion"]) (pv := "conditions") (sp := spMfB K T.CInvalidFact) lk hcd sc_make_fact StX.cxUp (fun us rest h => ?_) (fun A outer s H vs Q E hr h => ?_)
  · match us, h with
    | [u], _ => cases rest <;> rfl
  obtain ⟨x, e, a, ws, ds, rfl, ha, hx, hw, sh, sz, few, bad, q⟩ := h
  refine ⟨_, (pss_cons (ps_set (i := 2) nd rfl (.inl rfl) (pe_callTy call_list_of (by rfl) T.b_list (by decide +kernel) (pa_cons (pv 1) pa_nil)))
      (C8.pss_cut (ps_if (pt_cmpR op_notN (pv 0) pe_non (nomark _)) (pss_one (ps_expr (pe_bm PySem.F.plainAttrs_list PySem.F.slot_list_append PySem.F.type_list_append mt_append (pv 2) (pa_cons (pv 0) pa_nil)))) pss_nil)
      (pss_cons (ps_if (pt_not (pt_val (pe_call GA (hr.mono (by omega)) (by rfl) T.gare_couples T.fare_couples.kp T.nare_couples .nil pass0 (pa_cons (pv 2) pa_nil)))) (pss_one (ps_raise rfl (takes_of rfl rfl rfl rfl) (pmk_own PySem.F.excBase_ValueError T.xInvalidFact T.gInvalidFact T.kInvalidFact (raises_own T.bInvalidFact T.tInvalidFact) (by rfl)))) pss_nil)
      (pss_cons (ps_set (i := 3) nd rfl (.inl rfl) (pe_call GO (hr.mono (by omega)) (by rfl) T.gfact_of T.ffact_of.kp T.nfact_of .nil pass0 (pa_cons (pv 0) (pa_cons (pv 1) pa_nil))))
      (pss_cons (ps_if (pt_cmpR op_isN (pv 3) pe_non (nomark _)) (pss_one (ps_raise rfl (takes_of rfl rfl rfl rfl) (pmk_own PySem.F.excBase_ValueError T.xInvalidFact T.gInvalidFact T.kInvalidFact (raises_own T.bInvalidFact T.tInvalidFact) (by rfl)))) pss_nil)
      pss_false))))), ?_⟩
  have lw := hw.length
  refine ⟨_, rfl, a, ws, rfl, .inr (SqT.of ha), fun l nl => ?_⟩
  have s1 := same_put (o := .lst ws) nl
  refine ⟨fun σ' G => σ' = [some x, some (.ref a), some (.ref l), none] ∧ Same H G ∧ ∃ zs, G l = some (.lst zs) ∧ DxAll K G zs (ds ++ endOf e), ?_, ?_⟩
  · refine ⟨_, rfl, rfl, _, rfl, ?_⟩
    by_cases ex : x = .non
    · have ee := (dx_nil hx).mpr ex
      subst ex ee
      refine iteF ⟨rfl, s1, ws, upd_same, ?_⟩
      rw [show endOf .none = [] from rfl, List.append_nil]
      exact hw.up s1
    · have ee : e ≠ .none := fun z => ex ((dx_nil hx).mp z)
      rw [show (!decide (x = .non)) = true by simp [ex]]
      refine iteT ?_
      refine ⟨_, rfl, .inl ⟨rfl, _, .inl (.inl upd_same)⟩, _, rfl, l, ws, x, rfl, rfl, upd_same, small1000 (by omega), rfl, ?_, ws ++ [x], upd_same, ?_⟩
      · intro z o hz
        rw [upd_ne (ne_of_none hz nl)]
        exact s1 _ _ hz
      · rw [endOf_some ee, upd_upd]
        exact DxAll.append (hw.up (same_put nl)) (.cons (hx.up (same_put nl)) .nil)
  · rintro σ' G ⟨rfl, sG, zs, el, dz⟩
    have l1 : (endOf e).length ≤ 1 := by cases e <;> simp [endOf]
    refine ⟨_, rfl, l, zs, ds ++ endOf e, rfl, SqL.of el, dz, sh, by omega, by rw [List.length_append]; omega, fun G2 s2 => ⟨_, rfl, ?_⟩⟩
    have s3 := sG.trans s2
    cases hc : couplesD (ds ++ endOf e) with
    | false => exact iteT (q _ s3)
    | true =>
    have wr := couples_wr hc sz
    have be : e ≠ .none ∧ eqC e := by
      rcases bad with z | z
      · rw [hc] at z; cases z
      · exact z
    refine iteF ⟨_, rfl, _, rfl, a, x, e, ws, ds, rfl, hx.up s3, .inr (SqT.of (s3 _ _ ha)), hw.up s3, fun z hz => wr z (List.mem_append_left _ hz), by omega, fun ee => wr e (by rw [endOf_some ee]; exact List.mem_append_right _ (List.mem_singleton_self _)), fun y G3 s4 hy => ?_⟩
    cases hy.mpr be
    exact ⟨_, rfl, rfl, _, rfl, iteT (q _ (s3.trans s4))⟩
end
end K14
/-! What is no term. -/
namespace Kx
open PySem PySem.Spec PyProof.Rows L2
theorem mk_pow {K : PySem.W.Frag} {S : List Addr} (i j : Int) (h : CPow i j) : Makes K S (tOp (rI CPow fun i j => .int (i ^ j.toNat)) (tC (.int i)) (tC (.int j))) (.int (i ^ j.toNat)) := fun σ H Q _ q => ⟨i, j, rfl, rfl, h, q _ H (Same.refl H) (.int _)⟩
end Kx
namespace K14
open PySem PySem.Spec PyProof.Rows L2 Kx
def noterm1 : List PyData := [.none, .int 0, .bool true, .str "", .str "a", .tuple [], .dict [], .list [], .list [.tuple [.str "a"]], .tuple [.str "a", .str "b"], .tuple [.str "A"], .tuple [.str "a", .tuple [.str "b", .str "c"]], .tuple [.str ""], .tuple [.str "a", .tuple []]]
def noterm2 : List PyData := [.tuple [.str "abcdefghi"], .tuple [.tuple [.str "a"], .str "b"], .tuple [.tuple [.str "a"]], .tuple [.str "a1"], .tuple [.str "a", .none], .int (10 ^ (39 : Int).toNat), .tuple [.str "f", .tuple [.str "f"]]]
def noterm3 : List PyData := [.tuple [.str "f", .tuple [.str "a"], .tuple [.str "a"], .tuple [.str "a"], .tuple [.str "a"]], .tuple [.tuple [.str "b"], .tuple [.str "a"]], .list [.str "a"]]
def noterm4 : List PyData := [.tuple [.str "g", .tuple [.str "a"], .tuple [.str "f", .tuple [.str "g", .tuple [.str "a"]]]], .tuple [.list [.str "a"]], .tuple [.str "f", .tuple [.list [.str "a"]]]]
def noterms : List PyData := noterm1 ++ noterm2 ++ noterm3 ++ noterm4
section
variable {P : Program} {w : World} {K : PySem.W.Frag} {mg : Str → Option Value} {base : Heap}
def sp_noterm (K : PySem.W.Frag) : Sp := fun vs H Q _ => ∃ (a : Addr) (n : Nat) (S : List Addr), vs = [.ref a] ∧ Dice H a n ∧ n + 1 < cap ∧ a ∈ S ∧ Olds S H ∧
  ∀ (x : V) (d : PyData) H', But a H H' → Dice H' a (n + 1) → Dx K (OffS S H') x d → d ∈ noterms → Q x H'
theorem ok_noterm (T : Tx K mg) : FnOk P w K mg base CX0 3 T.a_law_no_term T.d_law_no_term ["dice"] (sp_noterm K) := by
  have nd := sc__law_no_term.nd
  have G := ok_pick (P := P) (w := w) (base := base) T
  refine T.f_law_no_term.ok sc__law_no_term (fun vs H Q E h => ?_) (fun cdv A outer s H vs Q E hr h => ?_)
  · obtain ⟨a, n, S, rfl, _⟩ := h
    rfl
  · obtain ⟨a, n, S, rfl, hd, hn, aS, old, q⟩ := h
    refine ⟨_, (pss_cons (ps_set (i := 1) nd rfl (.inl rfl) (pe_lst (pa_cons pe_non (pa_cons pe_int (pa_cons pe_bl (pa_cons pe_str (pa_cons pe_str (pa_cons (pe_tup pa_nil) (pa_cons pe_dnewK (pa_cons (pe_lst pa_nil) (pa_cons (pe_lst (pa_cons (pe_tup (pa_cons pe_str pa_nil)) pa_nil)) (pa_cons (pe_tup (pa_cons pe_str (pa_cons pe_str pa_nil))) (pa_cons (pe_tup (pa_cons pe_str pa_nil)) (pa_cons (pe_tup (pa_cons pe_str (pa_cons (pe_tup (pa_cons pe_str (pa_cons pe_str pa_nil))) pa_nil))) (pa_cons (pe_tup (pa_cons pe_str pa_nil)) (pa_cons (pe_tup (pa_cons pe_str (pa_cons (pe_tup pa_nil) pa_nil))) pa_nil))))))))))))))))
      (pss_cons (ps_set (i := 1) nd rfl (.inl rfl) (pe_op op_cat (pv 1) (pe_lst (pa_cons (pe_tup (pa_cons pe_str pa_nil)) (pa_cons (pe_tup (pa_cons (pe_tup (pa_cons pe_str pa_nil)) (pa_cons pe_str pa_nil))) (pa_cons (pe_tup (pa_cons (pe_tup (pa_cons pe_str pa_nil)) pa_nil)) (pa_cons (pe_tup (pa_cons pe_str pa_nil)) (pa_cons (pe_tup (pa_cons pe_str (pa_cons pe_non pa_nil))) (pa_cons (pe_op op_pow pe_int pe_int) (pa_cons (pe_tup (pa_cons pe_str (pa_cons (pe_tup (pa_cons pe_str pa_nil)) pa_nil))) pa_nil))))))))))
      (pss_cons (ps_set (i := 1) nd rfl (.inl rfl) (pe_op op_cat (pv 1) (pe_lst (pa_cons (pe_tup (pa_cons pe_str (pa_cons (pe_tup (pa_cons pe_str pa_nil)) (pa_cons (pe_tup (pa_cons pe_str pa_nil)) (pa_cons (pe_tup (pa_cons pe_str pa_nil)) (pa_cons (pe_tup (pa_cons pe_str pa_nil)) pa_nil)))))) (pa_cons (pe_tup (pa_cons (pe_tup (pa_cons pe_str pa_nil)) (pa_cons (pe_tup (pa_cons pe_str pa_nil)) pa_nil))) (pa_cons (pe_lst (pa_cons pe_str pa_nil)) pa_nil))))))
      (pss_cons (ps_set (i := 1) nd rfl (.inl rfl) (pe_op op_cat (pv 1) (pe_lst (pa_cons (pe_tup (pa_cons pe_str (pa_cons (pe_tup (pa_cons pe_str pa_nil)) (pa_cons (pe_tup (pa_cons pe_str (pa_cons (pe_tup (pa_cons pe_str (pa_cons (pe_tup (pa_cons pe_str pa_nil)) pa_nil))) pa_nil))) pa_nil)))) (pa_cons (pe_tup (pa_cons (pe_lst (pa_cons pe_str pa_nil)) pa_nil)) (pa_cons (pe_tup (pa_cons pe_str (pa_cons (pe_tup (pa_cons (pe_lst (pa_cons pe_str pa_nil)) pa_nil)) pa_nil))) pa_nil))))))
      (pss_one (ps_ret (pe_call G (hr.mono (by decide)) (by rfl) T.g_law_pick T.f_law_pick.kp T.n_law_pick .nil pass0 (pa_cons (pv 0) (pa_cons (pv 1) pa_nil))))))))), ?_⟩
    refine asg_mk (K := K) (S := S) (d := .list noterm1) (mk_lst (mk_cons mk_non (mk_cons (mk_int _) (mk_cons (mk_bl _) (mk_cons (mk_str _) (mk_cons (mk_str _) (mk_cons (mk_tup mk_nil) (mk_cons mk_dic0 (mk_cons (mk_lst mk_nil) (mk_cons (mk_lst (mk_cons (mk_tup (mk_cons (mk_str _) mk_nil)) mk_nil)) (mk_cons (mk_tup (mk_cons (mk_str _) (mk_cons (mk_str _) mk_nil))) (mk_cons (mk_tup (mk_cons (mk_str _) mk_nil)) (mk_cons (mk_tup (mk_cons (mk_str _) (mk_cons (mk_tup (mk_cons (mk_str _) (mk_cons (mk_str _) mk_nil))) mk_nil))) (mk_cons (mk_tup (mk_cons (mk_str _) mk_nil)) (mk_cons (mk_tup (mk_cons (mk_str _) (mk_cons (mk_tup mk_nil) mk_nil))) mk_nil))))))))))))))) old fun x1 H1 s1 d1 => ?_
    refine cat_mk (es := noterm2) (rfl : _ = some (some x1)) d1 (mk_lst (mk_cons (mk_tup (mk_cons (mk_str _) mk_nil)) (mk_cons (mk_tup (mk_cons (mk_tup (mk_cons (mk_str _) mk_nil)) (mk_cons (mk_str _) mk_nil))) (mk_cons (mk_tup (mk_cons (mk_tup (mk_cons (mk_str _) mk_nil)) mk_nil)) (mk_cons (mk_tup (mk_cons (mk_str _) mk_nil)) (mk_cons (mk_tup (mk_cons (mk_str _) (mk_cons mk_non mk_nil))) (mk_cons (mk_pow _ _ ⟨by decide, by decide, by decide⟩) (mk_cons (mk_tup (mk_cons (mk_str _) (mk_cons (mk_tup (mk_cons (mk_str _) mk_nil)) mk_nil))) mk_nil)))))))) (by decide) (old.up s1) fun x2 H2 s2 d2 => ?_
    have s2 := s1.trans s2
    refine cat_mk (es := noterm3) (rfl : _ = some (some x2)) d2 (mk_lst (mk_cons (mk_tup (mk_cons (mk_str _) (mk_cons (mk_tup (mk_cons (mk_str _) mk_nil)) (mk_cons (mk_tup (mk_cons (mk_str _) mk_nil)) (mk_cons (mk_tup (mk_cons (mk_str _) mk_nil)) (mk_cons (mk_tup (mk_cons (mk_str _) mk_nil)) mk_nil)))))) (mk_cons (mk_tup (mk_cons (mk_tup (mk_cons (mk_str _) mk_nil)) (mk_cons (mk_tup (mk_cons (mk_str _) mk_nil)) mk_nil))) (mk_cons (mk_lst (mk_cons (mk_str _) mk_nil)) mk_nil)))) (by decide) (old.up s2) fun x3 H3 s3 d3 => ?_
    have s3 := s2.trans s3
    refine cat_mk (es := noterm4) (rfl : _ = some (some x3)) d3 (mk_lst (mk_cons (mk_tup (mk_cons (mk_str _) (mk_cons (mk_tup (mk_cons (mk_str _) mk_nil)) (mk_cons (mk_tup (mk_cons (mk_str _) (mk_cons (mk_tup (mk_cons (mk_str _) (mk_cons (mk_tup (mk_cons (mk_str _) mk_nil)) mk_nil))) mk_nil))) mk_nil)))) (mk_cons (mk_tup (mk_cons (mk_lst (mk_cons (mk_str _) mk_nil)) mk_nil)) (mk_cons (mk_tup (mk_cons (mk_str _) (mk_cons (mk_tup (mk_cons (mk_lst (mk_cons (mk_str _) mk_nil)) mk_nil)) mk_nil))) mk_nil)))) (by decide) (old.up s3) fun x4 H4 s4 d4 => ?_
    have s4 := s3.trans s4
    cases d4 with
    | @lst b xs _ hb hx =>
    obtain ⟨nb, eb⟩ := OffS.of hb
    have ln := hx.length
    refine ⟨_, rfl, _, rfl, a, b, n, xs, rfl, hd.up s4, by omega, .inl (.inl eb), fun e => nb (by rw [e]; exact aS), by rw [ln]; decide, by rw [ln]; decide, fun i v H' bt dd hi => ?_⟩
    have lt : i < (noterm1 ++ noterm2 ++ noterm3 ++ noterm4).length := by
      rw [← ln]
      exact (List.getElem?_eq_some_iff.mp hi).1
    obtain ⟨v2, hv, dv⟩ := hx.get (List.getElem?_eq_getElem lt)
    rw [hi] at hv
    cases hv
    refine q v _ H' ((But.of s4).trans bt) dd (dv.up fun c o hc => ?_) (List.getElem_mem lt)
    obtain ⟨nc, hc⟩ := OffS.of hc
    exact OffS.out nc (bt c o hc (fun e => nc (by rw [e]; exact aS)))
end
end K14
/-! Displays of constants and of locals that hold data. -/
namespace Kx
open PySem PySem.Spec PyProof.Rows L2
/-- the locals ρ hold data -/
def Lc (K : PySem.W.Frag) (S : List Addr) (ρ : List (Nat × PyData)) (σ : L2.St) (H : Hp) : Prop := ∀ p, p ∈ ρ → ∃ x, σ[p.1]? = some (some x) ∧ Dx K (OffS S H) x p.2
def MakesV (K : PySem.W.Frag) (S : List Addr) (ρ : List (Nat × PyData)) (te : TE) (d : PyData) : Prop := ∀ (σ : L2.St) (H : Hp) (Q : VK), Olds S H → Lc K S ρ σ H → (∀ x H', Same H H' → Dx K (OffS S H') x d → Q x H') → te σ H Q
def MakesVs (K : PySem.W.Frag) (S : List Addr) (ρ : List (Nat × PyData)) (ta : TA) (ds : List PyData) : Prop := ∀ (σ : L2.St) (H : Hp) (Q : List V → Hp → Prop), Olds S H → Lc K S ρ σ H → (∀ xs H', Same H H' → DxAll K (OffS S H') xs ds → Q xs H') → ta σ H Q
section
variable {K : PySem.W.Frag} {S : List Addr} {ρ : List (Nat × PyData)} {te : TE} {ta : TA} {d : PyData} {ds : List PyData} {σ : L2.St} {H H' : Hp}
theorem Lc.up (h : Lc K S ρ σ H) (s : Same H H') : Lc K S ρ σ H' := fun p hp => by
  obtain ⟨x, e, dx⟩ := h p hp
  exact ⟨x, e, dx.up (OffS.same s)⟩
theorem mv_of (h : Makes K S te d) : MakesV K S ρ te d := fun σ H Q o _ q => h σ H Q o q
theorem mv_var {i : Nat} (h : (i, d) ∈ ρ) : MakesV K S ρ (tVar i) d := fun σ H Q _ l q => by
  obtain ⟨x, e, dx⟩ := l _ h
  exact ⟨x, e, q _ H (Same.refl H) dx⟩
theorem mv_nil : MakesVs K S ρ tNil [] := fun σ H Q _ _ q => q _ H (Same.refl H) .nil
theorem mv_cons (h1 : MakesV K S ρ te d) (h2 : MakesVs K S ρ ta ds) : MakesVs K S ρ (tCons te ta) (d :: ds) := fun σ H Q o l q =>
  h1 σ H _ o l fun x H1 s1 d1 => h2 σ H1 _ (o.up s1) (l.up s1) fun xs H2 s2 d2 => q _ H2 (s1.trans s2) (.cons (d1.up (OffS.same s2)) d2)
theorem mv_tup (h : MakesVs K S ρ ta ds) (few : ds.length ≤ sizeLine := by decide) : MakesV K S ρ (tTup ta) (.tuple ds) := fun σ H Q o l q =>
  h σ H _ o l fun xs H1 s1 d1 => ⟨by rw [d1.length]; exact few, fun p np => q _ _ (s1.trans (same_put np)) (.tup (OffS.out ((o.up s1).new np) upd_same) (d1.up (OffS.same (same_put np))))⟩
theorem mv_lst (h : MakesVs K S ρ ta ds) (few : ds.length ≤ sizeLine := by decide) : MakesV K S ρ (tLst ta) (.list ds) := fun σ H Q o l q =>
  h σ H _ o l fun xs H1 s1 d1 => ⟨by rw [d1.length]; exact few, fun p np => q _ _ (s1.trans (same_put np)) (.lst (OffS.out ((o.up s1).new np) upd_same) (d1.up (OffS.same (same_put np))))⟩
theorem mv_cat {tb : TE} {es : List PyData} (h1 : MakesV K S ρ te (.list ds)) (h2 : MakesV K S ρ tb (.list es)) (few : ds.length + es.length ≤ sizeLine := by decide) : MakesV K S ρ (tOp rCat te tb) (.list (ds ++ es)) := fun σ H Q o l q =>
  h1 σ H _ o l fun x H1 s1 d1 => h2 σ H1 _ (o.up s1) (l.up s1) fun y H2 s2 d2 => by
    have d1 := d1.up (OffS.same s2)
    cases d1 with
    | lst ha hx =>
    cases d2 with
    | lst hb hy =>
    rename_i a xs b ys
    refine ⟨a, b, xs, ys, rfl, rfl, OffS.all _ _ ha, OffS.all _ _ hb, by rw [hx.length, hy.length]; exact few, fun p np => ?_⟩
    exact q _ _ (s1.trans (s2.trans (same_put np))) (.lst (OffS.out (((o.up s1).up s2).new np) upd_same) (DxAll.append (hx.up (OffS.same (same_put np))) (hy.up (OffS.same (same_put np)))))
theorem asg_mv {j : Nat} {rest : TS} {D : Ends} (m : MakesV K S ρ te d) (o : Olds S H) (l : Lc K S ρ σ H) (q : ∀ x H', Same H H' → Dx K (OffS S H') x d → rest D (σ.set j (some x)) H') : tSeq (tAsg te (gName j)) rest D σ H := m σ H _ o l q
theorem asg2_mv {g : TG} {rest : TS} {D : Ends} (m : MakesV K S ρ te d) (o : Olds S H) (l : Lc K S ρ σ H) (q : ∀ x H', Same H H' → Dx K (OffS S H') x d → g x σ H' fun σ2 H2 => rest D σ2 H2) : tSeq (tAsg te g) rest D σ H := m σ H _ o l q
end
end Kx
/-! What is no fact. -/
namespace K14
open PySem PySem.Spec PyProof.Rows L2 Kx
def nofact_one : PyData := .tuple [.tuple [.str "a"], .tuple [.str "b"]]
def nofact_two : PyData := .tuple [.tuple [.str "c"], .tuple [.str "f", .tuple [.str "a"]]]
def nofact1 : List PyData := [.none, .int 0, .str "a=b", .tuple [], nofact_one, .tuple [.tuple [nofact_one]], .list [.tuple [], nofact_one]]
def nofact2 : List PyData := [.tuple [.tuple [nofact_one, nofact_one], .none], .tuple [.tuple [nofact_two, nofact_one], .none], .tuple [.tuple [], .tuple []]]
def nofact3 : List PyData := [.tuple [.list [nofact_one], .none], .tuple [.tuple [nofact_one], .none, .tuple []], .tuple [.none, nofact_one]]
def nofact4 : List PyData := [.tuple [.tuple [], .tuple [.tuple [.str "a"], .tuple [.str "a"]]], .dict [], .bool true, .tuple [.tuple [], .none, .int 1]]
def nofact5 : List PyData := [.tuple [.tuple [nofact_one], .tuple [.tuple [.str "a", .tuple [.str "a"]], .tuple [.str "b"]]], .tuple [.tuple [.str "a"], .none]]
def nofact6 : List PyData := [.tuple [.tuple [.tuple [.tuple [.str "c"], .tuple [.str "f"]], nofact_two], .none], .tuple [.tuple [nofact_one, .none], .none]]
def nofact7 : List PyData := [.tuple [.tuple [], .tuple [.tuple [.str "b"], .tuple [.str "a"]]]]
def nofacts : List PyData := nofact1 ++ nofact2 ++ nofact3 ++ nofact4 ++ nofact5 ++ nofact6 ++ nofact7
section
variable {P : Program} {w : World} {K : PySem.W.Frag} {mg : Str → Option Value} {base : Heap}
def sp_nofact (K : PySem.W.Frag) : Sp := fun vs H Q _ => ∃ (a : Addr) (n : Nat) (S : List Addr), vs = [.ref a] ∧ Dice H a n ∧ n + 1 < cap ∧ a ∈ S ∧ Olds S H ∧
  ∀ (x : V) (d : PyData) H', But a H H' → Dice H' a (n + 1) → Dx K (OffS S H') x d → d ∈ nofacts → Q x H'
theorem ok_nofact (T : Tx K mg) : FnOk P w K mg base CX0 3 T.a_law_no_fact T.d_law_no_fact ["dice"] (sp_nofact K) := by
  have nd := sc__law_no_fact.nd
  have G := ok_pick (P := P) (w := w) (base := base) T
  refine T.f_law_no_fact.ok sc__law_no_fact (fun vs H Q E h => ?_) (fun cdv A outer s H vs Q E hr h => ?_)
  · obtain ⟨a, n, S, rfl, _⟩ := h
    rfl
  · obtain ⟨a, n, S, rfl, hd, hn, aS, old, q⟩ := h
    refine ⟨_, (pss_cons (ps_asg (pe_tup (pa_cons (pe_tup (pa_cons (pe_tup (pa_cons pe_str pa_nil)) (pa_cons (pe_tup (pa_cons pe_str pa_nil)) pa_nil))) (pa_cons (pe_tup (pa_cons (pe_tup (pa_cons pe_str pa_nil)) (pa_cons (pe_tup (pa_cons pe_str (pa_cons (pe_tup (pa_cons pe_str pa_nil)) pa_nil))) pa_nil))) pa_nil))) (pg_tup rfl (pgs_cons (pg_name (i := 1) nd rfl (.inl rfl)) (pgs_cons (pg_name (i := 2) nd rfl (.inl rfl)) pgs_nil))))
      (pss_cons (ps_set (i := 3) nd rfl (.inl rfl) (pe_lst (pa_cons pe_non (pa_cons pe_int (pa_cons pe_str (pa_cons (pe_tup pa_nil) (pa_cons (pv 1) (pa_cons (pe_tup (pa_cons (pe_tup (pa_cons (pv 1) pa_nil)) pa_nil)) (pa_cons (pe_lst (pa_cons (pe_tup pa_nil) (pa_cons (pv 1) pa_nil))) pa_nil)))))))))
      (pss_cons (ps_set (i := 3) nd rfl (.inl rfl) (pe_op op_cat (pv 3) (pe_lst (pa_cons (pe_tup (pa_cons (pe_tup (pa_cons (pv 1) (pa_cons (pv 1) pa_nil))) (pa_cons pe_non pa_nil))) (pa_cons (pe_tup (pa_cons (pe_tup (pa_cons (pv 2) (pa_cons (pv 1) pa_nil))) (pa_cons pe_non pa_nil))) (pa_cons (pe_tup (pa_cons (pe_tup pa_nil) (pa_cons (pe_tup pa_nil) pa_nil))) pa_nil))))))
      (pss_cons (ps_set (i := 3) nd rfl (.inl rfl) (pe_op op_cat (pv 3) (pe_lst (pa_cons (pe_tup (pa_cons (pe_lst (pa_cons (pv 1) pa_nil)) (pa_cons pe_non pa_nil))) (pa_cons (pe_tup (pa_cons (pe_tup (pa_cons (pv 1) pa_nil)) (pa_cons pe_non (pa_cons (pe_tup pa_nil) pa_nil)))) (pa_cons (pe_tup (pa_cons pe_non (pa_cons (pv 1) pa_nil))) pa_nil))))))
      (pss_cons (ps_set (i := 3) nd rfl (.inl rfl) (pe_op op_cat (pv 3) (pe_lst (pa_cons (pe_tup (pa_cons (pe_tup pa_nil) (pa_cons (pe_tup (pa_cons (pe_tup (pa_cons pe_str pa_nil)) (pa_cons (pe_tup (pa_cons pe_str pa_nil)) pa_nil))) pa_nil))) (pa_cons pe_dnewK (pa_cons pe_bl (pa_cons (pe_tup (pa_cons (pe_tup pa_nil) (pa_cons pe_non (pa_cons pe_int pa_nil)))) pa_nil)))))))
      (pss_cons (ps_set (i := 3) nd rfl (.inl rfl) (pe_op op_cat (pv 3) (pe_lst (pa_cons (pe_tup (pa_cons (pe_tup (pa_cons (pv 1) pa_nil)) (pa_cons (pe_tup (pa_cons (pe_tup (pa_cons pe_str (pa_cons (pe_tup (pa_cons pe_str pa_nil)) pa_nil))) (pa_cons (pe_tup (pa_cons pe_str pa_nil)) pa_nil))) pa_nil))) (pa_cons (pe_tup (pa_cons (pe_tup (pa_cons pe_str pa_nil)) (pa_cons pe_non pa_nil))) pa_nil)))))
      (pss_cons (ps_set (i := 3) nd rfl (.inl rfl) (pe_op op_cat (pv 3) (pe_lst (pa_cons (pe_tup (pa_cons (pe_tup (pa_cons (pe_tup (pa_cons (pe_tup (pa_cons pe_str pa_nil)) (pa_cons (pe_tup (pa_cons pe_str pa_nil)) pa_nil))) (pa_cons (pv 2) pa_nil))) (pa_cons pe_non pa_nil))) (pa_cons (pe_tup (pa_cons (pe_tup (pa_cons (pv 1) (pa_cons pe_non pa_nil))) (pa_cons pe_non pa_nil))) pa_nil)))))
      (pss_one (ps_ret (pe_call G (hr.mono (by decide)) (by rfl) T.g_law_pick T.f_law_pick.kp T.n_law_pick .nil pass0 (pa_cons (pv 0) (pa_cons (pe_op op_cat (pv 3) (pe_lst (pa_cons (pe_tup (pa_cons (pe_tup pa_nil) (pa_cons (pe_tup (pa_cons (pe_tup (pa_cons pe_str pa_nil)) (pa_cons (pe_tup (pa_cons pe_str pa_nil)) pa_nil))) pa_nil))) pa_nil))) pa_nil)))))))))))), ?_⟩
    refine asg2_mv (K := K) (S := S) (ρ := []) (d := .tuple [nofact_one, nofact_two]) (mv_tup (mv_cons (d := nofact_one) (mv_tup (mv_cons (mv_tup (mv_cons (mv_of (mk_str _)) mv_nil)) (mv_cons (mv_tup (mv_cons (mv_of (mk_str _)) mv_nil)) mv_nil))) (mv_cons (d := nofact_two) (mv_tup (mv_cons (mv_tup (mv_cons (mv_of (mk_str _)) mv_nil)) (mv_cons (mv_tup (mv_cons (mv_of (mk_str _)) (mv_cons (mv_tup (mv_cons (mv_of (mk_str _)) mv_nil)) mv_nil))) mv_nil))) mv_nil))) old (fun p hp => by cases hp) fun x0 H0 s0 d0 => ?_
    cases d0 with
    | @tup p0 xs0 _ hp0 d0 =>
    cases d0 with
    | @cons x1 _ _ _ b1 d0 =>
    cases d0 with
    | @cons x2 _ _ _ b2 d0 =>
    cases d0
    refine ⟨p0, _, rfl, SqT.of (OffS.all _ _ hp0), rfl, _, _, rfl, _, _, rfl, rfl, ?_⟩
    have l0 : Lc K S [(1, nofact_one), (2, nofact_two)] _ H0 := (fun p hp => by
      simp only [List.mem_cons, List.not_mem_nil, or_false] at hp
      rcases hp with rfl | rfl
      · exact ⟨x1, (rfl : [some (V.ref a), some x1, some x2, none][1]? = _), b1⟩
      · exact ⟨x2, rfl, b2⟩)
    refine asg_mv (K := K) (S := S) (ρ := [(1, nofact_one), (2, nofact_two)]) (d := .list nofact1) (mv_lst (mv_cons (mv_of mk_non) (mv_cons (mv_of (mk_int _)) (mv_cons (mv_of (mk_str _)) (mv_cons (mv_tup mv_nil) (mv_cons (mv_var (by simp)) (mv_cons (mv_tup (mv_cons (mv_tup (mv_cons (mv_var (by simp)) mv_nil)) mv_nil)) (mv_cons (mv_lst (mv_cons (mv_tup mv_nil) (mv_cons (mv_var (by simp)) mv_nil))) mv_nil)))))))) (old.up s0) l0 fun y1 H1 s1 d1 => ?_
    have t1 := s1
    have u1 := s0.trans s1
    have l1 : Lc K S [(1, nofact_one), (2, nofact_two), (3, .list (nofact1))] [some (V.ref a), some x1, some x2, some y1] H1 := (fun p hp => by
      simp only [List.mem_cons, List.not_mem_nil, or_false] at hp
      rcases hp with rfl | rfl | rfl
      · exact ⟨x1, rfl, b1.up (OffS.same t1)⟩
      · exact ⟨x2, rfl, b2.up (OffS.same t1)⟩
      · exact ⟨y1, rfl, d1⟩)
    refine asg_mv (K := K) (S := S) (ρ := [(1, nofact_one), (2, nofact_two), (3, .list (nofact1))]) (d := .list (nofact1 ++ nofact2)) (mv_cat (mv_var (by simp)) (mv_lst (mv_cons (mv_tup (mv_cons (mv_tup (mv_cons (mv_var (by simp)) (mv_cons (mv_var (by simp)) mv_nil))) (mv_cons (mv_of mk_non) mv_nil))) (mv_cons (mv_tup (mv_cons (mv_tup (mv_cons (mv_var (by simp)) (mv_cons (mv_var (by simp)) mv_nil))) (mv_cons (mv_of mk_non) mv_nil))) (mv_cons (mv_tup (mv_cons (mv_tup mv_nil) (mv_cons (mv_tup mv_nil) mv_nil))) mv_nil))))) (old.up u1) l1 fun y2 H2 s2 d2 => ?_
    have t2 := t1.trans s2
    have u2 := u1.trans s2
    have l2 : Lc K S [(1, nofact_one), (2, nofact_two), (3, .list (nofact1 ++ nofact2))] [some (V.ref a), some x1, some x2, some y2] H2 := (fun p hp => by
      simp only [List.mem_cons, List.not_mem_nil, or_false] at hp
      rcases hp with rfl | rfl | rfl
      · exact ⟨x1, rfl, b1.up (OffS.same t2)⟩
      · exact ⟨x2, rfl, b2.up (OffS.same t2)⟩
      · exact ⟨y2, rfl, d2⟩)
    refine asg_mv (K := K) (S := S) (ρ := [(1, nofact_one), (2, nofact_two), (3, .list (nofact1 ++ nofact2))]) (d := .list (nofact1 ++ nofact2 ++ nofact3)) (mv_cat (mv_var (by simp)) (mv_lst (mv_cons (mv_tup (mv_cons (mv_lst (mv_cons (mv_var (by simp)) mv_nil)) (mv_cons (mv_of mk_non) mv_nil))) (mv_cons (mv_tup (mv_cons (mv_tup (mv_cons (mv_var (by simp)) mv_nil)) (mv_cons (mv_of mk_non) (mv_cons (mv_tup mv_nil) mv_nil)))) (mv_cons (mv_tup (mv_cons (mv_of mk_non) (mv_cons (mv_var (by simp)) mv_nil))) mv_nil))))) (old.up u2) l2 fun y3 H3 s3 d3 => ?_
    have t3 := t2.trans s3
    have u3 := u2.trans s3
    have l3 : Lc K S [(1, nofact_one), (2, nofact_two), (3, .list (nofact1 ++ nofact2 ++ nofact3))] [some (V.ref a), some x1, some x2, some y3] H3 := (fun p hp => by
      simp only [List.mem_cons, List.not_mem_nil, or_false] at hp
      rcases hp with rfl | rfl | rfl
      · exact ⟨x1, rfl, b1.up (OffS.same t3)⟩
      · exact ⟨x2, rfl, b2.up (OffS.same t3)⟩
      · exact ⟨y3, rfl, d3⟩)
    refine asg_mv (K := K) (S := S) (ρ := [(1, nofact_one), (2, nofact_two), (3, .list (nofact1 ++ nofact2 ++ nofact3))]) (d := .list (nofact1 ++ nofact2 ++ nofact3 ++ nofact4)) (mv_cat (mv_var (by simp)) (mv_lst (mv_cons (mv_tup (mv_cons (mv_tup mv_nil) (mv_cons (mv_tup (mv_cons (mv_tup (mv_cons (mv_of (mk_str _)) mv_nil)) (mv_cons (mv_tup (mv_cons (mv_of (mk_str _)) mv_nil)) mv_nil))) mv_nil))) (mv_cons (mv_of mk_dic0) (mv_cons (mv_of (mk_bl _)) (mv_cons (mv_tup (mv_cons (mv_tup mv_nil) (mv_cons (mv_of mk_non) (mv_cons (mv_of (mk_int _)) mv_nil)))) mv_nil)))))) (old.up u3) l3 fun y4 H4 s4 d4 => ?_
    have t4 := t3.trans s4
    have u4 := u3.trans s4
    have l4 : Lc K S [(1, nofact_one), (2, nofact_two), (3, .list (nofact1 ++ nofact2 ++ nofact3 ++ nofact4))] [some (V.ref a), some x1, some x2, some y4] H4 := (fun p hp => by
      simp only [List.mem_cons, List.not_mem_nil, or_false] at hp
      rcases hp with rfl | rfl | rfl
      · exact ⟨x1, rfl, b1.up (OffS.same t4)⟩
      · exact ⟨x2, rfl, b2.up (OffS.same t4)⟩
      · exact ⟨y4, rfl, d4⟩)
    refine asg_mv (K := K) (S := S) (ρ := [(1, nofact_one), (2, nofact_two), (3, .list (nofact1 ++ nofact2 ++ nofact3 ++ nofact4))]) (d := .list (nofact1 ++ nofact2 ++ nofact3 ++ nofact4 ++ nofact5)) (mv_cat (mv_var (by simp)) (mv_lst (mv_cons (mv_tup (mv_cons (mv_tup (mv_cons (mv_var (by simp)) mv_nil)) (mv_cons (mv_tup (mv_cons (mv_tup (mv_cons (mv_of (mk_str _)) (mv_cons (mv_tup (mv_cons (mv_of (mk_str _)) mv_nil)) mv_nil))) (mv_cons (mv_tup (mv_cons (mv_of (mk_str _)) mv_nil)) mv_nil))) mv_nil))) (mv_cons (mv_tup (mv_cons (mv_tup (mv_cons (mv_of (mk_str _)) mv_nil)) (mv_cons (mv_of mk_non) mv_nil))) mv_nil)))) (old.up u4) l4 fun y5 H5 s5 d5 => ?_
    have t5 := t4.trans s5
    have u5 := u4.trans s5
    have l5 : Lc K S [(1, nofact_one), (2, nofact_two), (3, .list (nofact1 ++ nofact2 ++ nofact3 ++ nofact4 ++ nofact5))] [some (V.ref a), some x1, some x2, some y5] H5 := (fun p hp => by
      simp only [List.mem_cons, List.not_mem_nil, or_false] at hp
      rcases hp with rfl | rfl | rfl
      · exact ⟨x1, rfl, b1.up (OffS.same t5)⟩
      · exact ⟨x2, rfl, b2.up (OffS.same t5)⟩
      · exact ⟨y5, rfl, d5⟩)
    refine asg_mv (K := K) (S := S) (ρ := [(1, nofact_one), (2, nofact_two), (3, .list (nofact1 ++ nofact2 ++ nofact3 ++ nofact4 ++ nofact5))]) (d := .list (nofact1 ++ nofact2 ++ nofact3 ++ nofact4 ++ nofact5 ++ nofact6)) (mv_cat (mv_var (by simp)) (mv_lst (mv_cons (mv_tup (mv_cons (mv_tup (mv_cons (mv_tup (mv_cons (mv_tup (mv_cons (mv_of (mk_str _)) mv_nil)) (mv_cons (mv_tup (mv_cons (mv_of (mk_str _)) mv_nil)) mv_nil))) (mv_cons (mv_var (by simp)) mv_nil))) (mv_cons (mv_of mk_non) mv_nil))) (mv_cons (mv_tup (mv_cons (mv_tup (mv_cons (mv_var (by simp)) (mv_cons (mv_of mk_non) mv_nil))) (mv_cons (mv_of mk_non) mv_nil))) mv_nil)))) (old.up u5) l5 fun y6 H6 s6 d6 => ?_
    have t6 := t5.trans s6
    have u6 := u5.trans s6
    have l6 : Lc K S [(1, nofact_one), (2, nofact_two), (3, .list (nofact1 ++ nofact2 ++ nofact3 ++ nofact4 ++ nofact5 ++ nofact6))] [some (V.ref a), some x1, some x2, some y6] H6 := (fun p hp => by
      simp only [List.mem_cons, List.not_mem_nil, or_false] at hp
      rcases hp with rfl | rfl | rfl
      · exact ⟨x1, rfl, b1.up (OffS.same t6)⟩
      · exact ⟨x2, rfl, b2.up (OffS.same t6)⟩
      · exact ⟨y6, rfl, d6⟩)
    refine ⟨_, rfl, (mv_cat (ρ := [(1, nofact_one), (2, nofact_two), (3, .list (nofact1 ++ nofact2 ++ nofact3 ++ nofact4 ++ nofact5 ++ nofact6))]) (ds := nofact1 ++ nofact2 ++ nofact3 ++ nofact4 ++ nofact5 ++ nofact6) (es := nofact7) (mv_var (by simp)) (mv_lst (mv_cons (mv_tup (mv_cons (mv_tup mv_nil) (mv_cons (mv_tup (mv_cons (mv_tup (mv_cons (mv_of (mk_str _)) mv_nil)) (mv_cons (mv_tup (mv_cons (mv_of (mk_str _)) mv_nil)) mv_nil))) mv_nil))) mv_nil))) _ H6 _ (old.up u6) l6 fun y H9 s9 d9 => ?_⟩
    cases d9 with
    | @lst b xs _ hb hx =>
    obtain ⟨nb, eb⟩ := OffS.of hb
    have ln := hx.length
    have u9 := u6.trans s9
    refine ⟨a, b, n, xs, rfl, hd.up u9, by omega, .inl (.inl eb), fun e => nb (by rw [e]; exact aS), by rw [ln]; decide, by rw [ln]; decide, fun i v H' bt dd hi => ?_⟩
    have lt : i < (nofact1 ++ nofact2 ++ nofact3 ++ nofact4 ++ nofact5 ++ nofact6 ++ nofact7).length := by
      rw [← ln]
      exact (List.getElem?_eq_some_iff.mp hi).1
    obtain ⟨v2, hv, dv⟩ := hx.get (List.getElem?_eq_getElem lt)
    rw [hi] at hv
    cases hv
    refine q v _ H' ((But.of u9).trans bt) dd (dv.up fun c o hc => ?_) (List.getElem_mem lt)
    obtain ⟨nc, hc⟩ := OffS.of hc
    exact OffS.out nc (bt c o hc (fun e => nc (by rw [e]; exact aS)))
end
end K14
/-! What is no dict of names. -/
namespace K14
open PySem PySem.Spec PyProof.Rows L2 Kx
section
variable {P : Program} {w : World} {K : PySem.W.Frag} {S : List Addr} {H H' : Hp} {te tb : TE} {ta : TA} {d : PyData} {n m : Nat}
def MkB (P : Program) (w : World) (K : PySem.W.Frag) (S : List Addr) (te : TE) : Prop := ∀ (σ : L2.St) (H : Hp) (Q : VK), Olds S H → (∀ x H', Same H H' → BadNm P w K (OffS S H') x → Q x H') → te σ H Q
def MkBs (P : Program) (w : World) (K : PySem.W.Frag) (S : List Addr) (n : Nat) (ta : TA) : Prop := ∀ (σ : L2.St) (H : Hp) (Q : List V → Hp → Prop), Olds S H → (∀ xs H', Same H H' → xs.length = n → (∀ x, x ∈ xs → BadNm P w K (OffS S H') x) → Q xs H') → ta σ H Q
theorem mb_of (h : Makes K S te d) (nd : isDict d = false := by rfl) : MkB P w K S te := fun σ H Q o q => h σ H Q o fun x H' s dx => q x H' s (.dat dx nd)
theorem mb_nil : MkBs P w K S 0 tNil := fun σ H Q o q => q [] H (Same.refl H) rfl fun _ h => nomatch h
theorem mb_cons (h1 : MkB P w K S te) (h2 : MkBs P w K S n ta) : MkBs P w K S (n + 1) (tCons te ta) := fun σ H Q o q =>
  h1 σ H _ o fun x H1 s1 d1 => h2 σ H1 _ (o.up s1) fun xs H2 s2 l2 d2 => q _ H2 (s1.trans s2) (by rw [List.length_cons, l2]) fun y hy => by
    rcases List.mem_cons.mp hy with e | hy
    · rw [e]; exact d1.up (OffS.same s2)
    · exact d2 y hy
theorem olds_cons {p : Addr} {o : HO} (h : Olds S H) (np : H p = none) : Olds (p :: S) (upd H p o) := fun b hb z => by
  rcases List.mem_cons.mp hb with e | hb
  · rw [e, upd_same] at z
    cases z
  · have := h b hb
    have ne : b ≠ p := fun e => this (by rw [e]; exact np)
    rw [upd_ne ne] at z
    exact this z
theorem same_two {p : Addr} {o o' : HO} (np : H p = none) (s : Same (upd H p o) H') : Same H (upd H' p o') := fun b u hb => by
  have ne := ne_of_none hb np
  rw [upd_ne ne]
  exact s b u (by rw [upd_ne ne]; exact hb)
theorem offs_cons {p : Addr} {o : HO} : Same (OffS (p :: S) H) (OffS [p] (OffS S (upd H p o))) := fun b u hb => by
  obtain ⟨nb, hb⟩ := OffS.of hb
  rw [List.mem_cons, not_or] at nb
  exact OffS.out (by simpa using nb.1) (OffS.out nb.2 (by rw [upd_ne nb.1]; exact hb))
theorem mb_dic1 (k : Key) (hm : ∀ S, Makes K S te d) (bad : (nameD (keyD k) && nameD d) = false) (h1 : ∀ y, keyD k = .str y → y.length ≤ 1000) (h2 : ∀ y, d = .str y → y.length ≤ 1000) : MkB P w K S (tDisp [(tC (kV k), te)]) := fun σ H Q o q p np =>
  hm (p :: S) σ (upd H p (.dK [])) _ (olds_cons o np) fun x H2 s2 d2 => ⟨s2 _ _ upd_same, [(k, x)], rfl, (by show 1 ≤ 15; decide), q (.ref p) (upd H2 p (.dK [(k, x)])) (same_two np s2)
    (.dic (es := [(k, x, d)]) (OffS.out (o.new np) upd_same) (fun e he => by
      rw [List.mem_singleton.mp he]
      exact ⟨d2.up offs_cons, h1, h2⟩) (by simp) (by show 1 ≤ 100; decide) (by simpa [okEnt] using bad))⟩
theorem mb_dicN (x : Str) : MkB P w K S (tDispN P w (tC (.str x))) := fun σ H Q o q p np =>
  ⟨upd_same, q (.ref p) _ (by rw [upd_upd]; exact same_put np) (.non (OffS.out (o.new np) upd_same))⟩
/-- a list of such -/
def BadL (P : Program) (w : World) (K : PySem.W.Frag) (S : List Addr) (H : Hp) (n : Nat) (x : V) : Prop := ∃ (l : Addr) (xs : List V), x = .ref l ∧ OffS S H l = some (.lst xs) ∧ xs.length = n ∧ ∀ y, y ∈ xs → BadNm P w K (OffS S H) y
theorem BadL.up {x : V} (h : BadL P w K S H n x) (s : Same H H') : BadL P w K S H' n x := by
  obtain ⟨l, xs, e, h1, h2, h3⟩ := h
  exact ⟨l, xs, e, OffS.same s _ _ h1, h2, fun y hy => (h3 y hy).up (OffS.same s)⟩
theorem asg_mb {j : Nat} {rest : TS} {D : Ends} {σ : L2.St} (h : MkBs P w K S n ta) (few : n ≤ 100) (o : Olds S H) (q : ∀ x H', Same H H' → BadL P w K S H' n x → rest D (σ.set j (some x)) H') : tSeq (tAsg (tLst ta) (gName j)) rest D σ H :=
  h σ H _ o fun xs H1 s1 l1 d1 => ⟨by rw [l1]; exact Nat.le_of_lt (small1000 (by omega)), fun p np => q _ _ (s1.trans (same_put np)) ⟨p, xs, rfl, OffS.out ((o.up s1).new np) upd_same, l1, fun y hy => (d1 y hy).up (OffS.same (same_put np))⟩⟩
theorem cat_mb {σ : L2.St} {i : Nat} {x : V} {Q : VK} (hx : σ[i]? = some (some x)) (d1 : BadL P w K S H n x) (h : MkBs P w K S m ta) (few : n + m ≤ 100) (o : Olds S H)
    (q : ∀ x H', Same H H' → BadL P w K S H' (n + m) x → Q x H') : tOp rCat (tVar i) (tLst ta) σ H Q := by
  refine ⟨x, hx, h σ H _ o fun ys H2 s2 l2 d2 => ⟨by rw [l2]; exact Nat.le_of_lt (small1000 (by omega)), fun b nb => ?_⟩⟩
  have s3 := s2.trans (same_put (o := .lst ys) nb)
  obtain ⟨l, xs, rfl, hl, lx, hb⟩ := d1.up s3
  refine ⟨l, b, xs, ys, rfl, rfl, OffS.all _ _ hl, upd_same, by rw [lx, l2]; exact Nat.le_of_lt (small1000 (by omega)), fun p np => ?_⟩
  refine q _ _ (s3.trans (same_put np)) ⟨p, _, rfl, OffS.out ((o.up s3).new np) upd_same, by rw [List.length_append, lx, l2], fun y hy => ?_⟩
  rcases List.mem_append.mp hy with hy | hy
  · exact (hb y hy).up (OffS.same (same_put np))
  · exact (d2 y hy).up (OffS.same ((same_put nb).trans (same_put np)))
end
section
variable {P : Program} {w : World} {K : PySem.W.Frag} {mg : Str → Option Value} {base : Heap}
def spNoN (P : Program) (w : World) (K : PySem.W.Frag) : Sp := fun vs H Q _ => ∃ (a : Addr) (n : Nat) (S : List Addr), vs = [.ref a] ∧ Dice H a n ∧ n + 1 < cap ∧ a ∈ S ∧ Olds S H ∧
  ∀ (x : V) H', But a H H' → Dice H' a (n + 1) → BadNm P w K (OffS S H') x → Q x H'
theorem ok_noN (T : Tx K mg) : FnOk P w K mg base CX0 3 T.a_law_no_names T.d_law_no_names ["dice"] (spNoN P w K) := by
  have nd := sc__law_no_names.nd
  have G := ok_pick (P := P) (w := w) (base := base) T
  refine T.f_law_no_names.ok sc__law_no_names (fun vs H Q E h => ?_) (fun cdv A outer s H vs Q E hr h => ?_)
  · obtain ⟨a, n, S, rfl, _⟩ := h
    rfl
  · obtain ⟨a, n, S, rfl, hd, hn, aS, old, q⟩ := h
    refine ⟨_, (pss_cons (ps_set (i := 1) nd rfl (.inl rfl) (pe_lst (pa_cons pe_non (pa_cons (pe_tup pa_nil) (pa_cons (pe_lst pa_nil) (pa_cons pe_str (pa_cons (pe_disp (pps_cons pe_str pe_non pps_nil) (by rfl) (by rfl) (fun z => by cases z) (by decide)) (pa_cons (pe_disp (pps_cons pe_str pe_int pps_nil) (by rfl) (by rfl) (fun z => by cases z) (by decide)) (pa_cons (pe_disp (pps_cons pe_str pe_str pps_nil) (by rfl) (by rfl) (fun z => by cases z) (by decide)) (pa_cons (pe_disp (pps_cons pe_str pe_str pps_nil) (by rfl) (by rfl) (fun z => by cases z) (by decide)) (pa_cons (pe_disp (pps_cons pe_int pe_str pps_nil) (by rfl) (by rfl) (fun z => by cases z) (by decide)) (pa_cons (pe_disp (pps_cons pe_str pe_str pps_nil) (by rfl) (by rfl) (fun z => by cases z) (by decide)) (pa_cons (pe_disp (pps_cons pe_str pe_str pps_nil) (by rfl) (by rfl) (fun z => by cases z) (by decide)) pa_nil)))))))))))))
      (pss_cons (ps_set (i := 1) nd rfl (.inl rfl) (pe_op op_cat (pv 1) (pe_lst (pa_cons (pe_dispN pe_non pe_str) pa_nil))))
      (pss_cons (ps_set (i := 1) nd rfl (.inl rfl) (pe_op op_cat (pv 1) (pe_lst (pa_cons (pe_disp (pps_cons pe_str (pe_tup (pa_cons pe_str pa_nil)) pps_nil) (by rfl) (by rfl) (fun z => by cases z) (by decide)) (pa_cons (pe_disp (pps_cons pe_str pe_str pps_nil) (by rfl) (by rfl) (fun z => by cases z) (by decide)) (pa_cons (pe_disp (pps_cons pe_str pe_str pps_nil) (by rfl) (by rfl) (fun z => by cases z) (by decide)) (pa_cons pe_bl pa_nil)))))))
      (pss_one (ps_ret (pe_call G (hr.mono (by decide)) (by rfl) T.g_law_pick T.f_law_pick.kp T.n_law_pick .nil pass0 (pa_cons (pv 0) (pa_cons (pe_op op_cat (pv 1) (pe_lst (pa_cons (pe_tup (pa_cons (pe_tup (pa_cons pe_str (pa_cons pe_str pa_nil))) pa_nil)) pa_nil))) pa_nil)))))))), ?_⟩
    refine asg_mb (P := P) (w := w) (K := K) (S := S) (mb_cons (mb_of mk_non) (mb_cons (mb_of (mk_tup mk_nil)) (mb_cons (mb_of (mk_lst mk_nil)) (mb_cons (mb_of (mk_str _)) (mb_cons (mb_dic1 (.inr "a") (fun S => mk_non) (by decide +kernel) (fun y e => by cases e; first | decide | exact (by decide)) (fun y e => nomatch e)) (mb_cons (mb_dic1 (.inr "a") (fun S => mk_int _) (by decide +kernel) (fun y e => by cases e; first | decide | exact (by decide)) (fun y e => nomatch e)) (mb_cons (mb_dic1 (.inr "a") (fun S => mk_str _) (by decide +kernel) (fun y e => by cases e; first | decide | exact (by decide)) (fun y e => by cases e; first | decide | exact (by decide))) (mb_cons (mb_dic1 (.inr "A") (fun S => mk_str _) (by decide +kernel) (fun y e => by cases e; first | decide | exact (by decide)) (fun y e => by cases e; first | decide | exact (by decide))) (mb_cons (mb_dic1 (.inl 5) (fun S => mk_str _) (by decide +kernel) (fun y e => nomatch e) (fun y e => by cases e; first | decide | exact (by decide))) (mb_cons (mb_dic1 (.inr "a") (fun S => mk_str _) (by decide +kernel) (fun y e => by cases e; first | decide | exact (by decide)) (fun y e => by cases e; first | decide | exact (by decide))) (mb_cons (mb_dic1 (.inr "") (fun S => mk_str _) (by decide +kernel) (fun y e => by cases e; first | decide | exact (by decide)) (fun y e => by cases e; first | decide | exact (by decide))) mb_nil))))))))))) (by decide) old fun x1 H1 s1 d1 => ?_
    refine cat_mb (σ := [some (.ref a), some x1]) (i := 1) rfl d1 (mb_cons (mb_dicN _) mb_nil) (by decide) (old.up s1) fun x2 H2 s2 d2 => ?_
    refine cat_mb (σ := [some (.ref a), some x2]) (i := 1) rfl d2 (mb_cons (mb_dic1 (.inr "a") (fun S => mk_tup (mk_cons (mk_str "b") mk_nil)) (by decide +kernel) (fun y e => by cases e; first | decide | exact (by decide)) (fun y e => nomatch e)) (mb_cons (mb_dic1 (.inr "abcdefghi") (fun S => mk_str _) (by decide +kernel) (fun y e => by cases e; first | decide | exact (by decide)) (fun y e => by cases e; first | decide | exact (by decide))) (mb_cons (mb_dic1 (.inr "a") (fun S => mk_str _) (by decide +kernel) (fun y e => by cases e; first | decide | exact (by decide)) (fun y e => by cases e; first | decide | exact (by decide))) (mb_cons (mb_of (mk_bl _)) mb_nil)))) (by decide) ((old.up s1).up s2) fun x3 H3 s3 d3 => ?_
    refine ⟨_, rfl, cat_mb (σ := [some (.ref a), some x3]) (i := 1) rfl d3 (mb_cons (mb_of (mk_tup (mk_cons (mk_tup (mk_cons (mk_str _) (mk_cons (mk_str _) mk_nil))) mk_nil))) mb_nil) (by decide) (((old.up s1).up s2).up s3) fun x4 H4 s4 d4 => ?_⟩
    have s13 := s1.trans (s2.trans (s3.trans s4))
    obtain ⟨b, xs, rfl, hb, lx, all⟩ := d4
    obtain ⟨nb, eb⟩ := OffS.of hb
    refine ⟨a, b, n, xs, rfl, hd.up s13, by omega, .inl (.inl eb), fun e => nb (by rw [e]; exact aS), by rw [lx]; decide, by rw [lx]; decide, fun i v H' bt dd hi => ?_⟩
    refine q v H' ((But.of s13).trans bt) dd ((all v (List.mem_of_getElem? hi)).up fun c o hc => ?_)
    obtain ⟨nc, hc⟩ := OffS.of hc
    exact OffS.out nc (bt c o hc (fun e => nc (by rw [e]; exact aS)))
end
end K14
/-! What holds of the odd values. -/
namespace K14
open PySem PySem.Spec PyProof.Rows L2 Kx
def fewD : PyData → Bool
  | .tuple [a, _] => match a with
    | .tuple ps => decide (ps.length ≤ 100)
    | _ => true
  | _ => true
theorem few_of {d : PyData} (h : fewD d = true) (ps : List PyData) (e : PyData) (z : d = .tuple [.tuple ps, e]) : ps.length ≤ 100 := by
  subst z
  exact of_decide_eq_true h
/-- what is asked of a value that is no term -/
structure NoT (d : PyData) : Prop where
  t : termD d = false
  s : shortD d = true
  z : szD d ≤ 1000
  p : isPairD d = false
  f : factD d = false
  w : fewD d = true
theorem noterm_ok : ∀ d, d ∈ noterms → NoT d := by
  have e : (noterms.all fun d => !termD d && shortD d && decide (szD d ≤ 1000) && !isPairD d && !factD d && fewD d) = true := by decide +kernel
  intro d hd
  have z := List.all_eq_true.mp e d hd
  simp only [Bool.and_eq_true, Bool.not_eq_true', decide_eq_true_eq] at z
  obtain ⟨⟨⟨⟨⟨h1, h2⟩, h3⟩, h4⟩, h5⟩, h6⟩ := z
  exact ⟨h1, h2, h3, h4, h5, h6⟩
structure NoF (d : PyData) : Prop where
  f : factD d = false
  s : shortD d = true
  z : szD d ≤ 1000
  w : fewD d = true
theorem nofact_ok : ∀ d, d ∈ nofacts → NoF d := by
  have e : (nofacts.all fun d => !factD d && shortD d && decide (szD d ≤ 1000) && fewD d) = true := by decide +kernel
  intro d hd
  have z := List.all_eq_true.mp e d hd
  simp only [Bool.and_eq_true, Bool.not_eq_true', decide_eq_true_eq] at z
  obtain ⟨⟨⟨h1, h2⟩, h3⟩, h4⟩ := z
  exact ⟨h1, h2, h3, h4⟩
end K14
/-! Lambdas as values: laid at an address, called later, from wherever they are held. -/
namespace Kx
open PySem PySem.Spec PyProof.Rows L2 LamX
theorem same_new' {H : Hp} {p : Addr} {o : HO} (h : H p = none) : Same H (upd H p o) := fun b x e => by
  rw [upd_ne (ne_of_none e h)]
  exact e
/-- an object, just as it is -/
def ObjO (a : Addr) (o : Obj) : HO := .ext fun h => h.get? a = some o
theorem objO_ok {P : Program} {w : World} {H : Hp} {h : Heap} {a : Addr} {o : Obj} (e : h.get? a = some o) : ObjOk P w H h a (ObjO a o) := ⟨e, ⟨o, e⟩, fun _ _ x k => k o x⟩
theorem objO_at {P : Program} {w : World} {H : Hp} {h : Heap} {a : Addr} {o : Obj} (x : ObjOk P w H h a (ObjO a o)) : h.get? a = some o := x.1
/-- f(), begun at H, ends in Q or in the error E -/
def Act (P : Program) (w : World) (K : PySem.W.Frag) (mg : Str → Option Value) (base : Heap) (k : Nat) (f : Addr) (H : Hp) (E : XK) (Q : VK) : Prop :=
  ∀ (A : Around) (outer : List Env) (s : Shared), Room k A → Env0 P w K mg base A outer s H → codeAny (model P w) A (.call (.ref f) ⟨[], []⟩) (CR (L2.CX P w) outer P w H s Q E) s
def CellsOf (X : Cx) (b : Addr) : Bool := X.env.cells.any fun p => decide (X.env.cells.lookup p.1 = some b)
theorem cellsOf_at {X : Cx} {y : Str} {c : Addr} (h : X.env.cells.lookup y = some c) : CellsOf X c = true := List.any_eq_true.mpr ⟨(y, c), PySem.mem_of_lookup h, decide_eq_true h⟩
theorem of_cellsOf {X : Cx} {c : Addr} (h : CellsOf X c = true) : ∃ y, X.env.cells.lookup y = some c := by
  obtain ⟨p, _, e⟩ := List.any_eq_true.mp h
  exact ⟨p.1, of_decide_eq_true e⟩
/-- without the cells, with them -/
def delC (C : Addr → Bool) (H : Hp) : Hp := fun b => if C b = true then none else H b
def addC (C : Addr → Bool) (G H : Hp) : Hp := fun b => if C b = true then G b else H b
theorem delC_in {C : Addr → Bool} {H : Hp} {b : Addr} (h : C b = true) : delC C H b = none := if_pos h
theorem delC_out {C : Addr → Bool} {H : Hp} {b : Addr} (h : ¬ C b = true) : delC C H b = H b := if_neg h
theorem addC_in {C : Addr → Bool} {G H : Hp} {b : Addr} (h : C b = true) : addC C G H b = G b := if_pos h
theorem addC_out {C : Addr → Bool} {G H : Hp} {b : Addr} (h : ¬ C b = true) : addC C G H b = H b := if_neg h
/-- at C stand objects, just as they are -/
def Objs (C : Addr → Bool) (H : Hp) : Prop := ∀ b, C b = true → ∃ o, H b = some (ObjO b o)
theorem Objs.up {C : Addr → Bool} {H H' : Hp} (h : Objs C H) (s : Same H H') : Objs C H' := fun b hb => by
  obtain ⟨o, e⟩ := h b hb
  exact ⟨o, s _ _ e⟩
theorem Objs.ne {C : Addr → Bool} {H : Hp} (h : Objs C H) {b : Addr} {u : HO} (e : H b = some u) (n : ∀ o, u ≠ ObjO b o) : ¬ C b = true := fun z => by
  obtain ⟨o, e'⟩ := h b z
  rw [e] at e'
  exact n o (Option.some.inj e')
theorem Objs.out {C : Addr → Bool} {H : Hp} (h : Objs C H) {b : Addr} (e : H b = none) : ¬ C b = true := fun z => by
  obtain ⟨o, e'⟩ := h b z
  rw [e] at e'
  cases e'
theorem ext_ne {b : Addr} {o : Obj} {xs : List V} : (HO.tup xs) ≠ ObjO b o := fun z => by
  unfold ObjO at z
  cases z
section
variable {P : Program} {w : World} {C : Addr → Bool} {H H' G : Hp} {h : Heap}
theorem hok_del (x : HOk P w H h) (O : Objs C H) : HOk P w (delC C H) h := fun b u e => by
  by_cases hb : C b = true
  · rw [delC_in hb] at e
    cases e
  · rw [delC_out hb] at e
    refine (x b u e).stay (fun _ _ _ q => q) (fun c q => ?_) fun c xs q => ?_
    · rw [delC_out (O.ne q fun o z => by unfold ObjO at z; cases z)]
      exact q
    · rw [delC_out (O.ne q fun o z => ext_ne z)]
      exact q
/-- the cells come back: they stand in h as they were -/
theorem hok_add (x : HOk P w H' h) (O : Objs C G) (n : ∀ b, C b = true → H' b = none) (k : ∀ b o, C b = true → G b = some (ObjO b o) → h.get? b = some o) : HOk P w (addC C G H') h := fun b u e => by
  by_cases hb : C b = true
  · rw [addC_in hb] at e
    obtain ⟨o, eo⟩ := O b hb
    rw [eo] at e
    cases e
    exact objO_ok (k b o hb eo)
  · rw [addC_out hb] at e
    have at_ : ∀ c v, H' c = some v → addC C G H' c = some v := fun c v q => by
      rw [addC_out fun z => by rw [n c z] at q; cases q]
      exact q
    exact (x b u e).stay (fun _ _ _ q => q) (fun c q => at_ c _ q) fun c xs q => at_ c _ q
end
section
variable {P : Program} {w : World} {C : Addr → Bool} {HZ H' : Hp} {outer : List Env} {s s' : Shared} {Q : VK} {E : XK} {u : Value}
/-- behind a call begun without the cells -/
theorem ce_add (O : Objs C HZ) (ok : HOk P w HZ s.heap) (nf : ∀ b ∈ frs outer, HZ b = none) (h : CE outer P w (delC C HZ) s (fun v H' => Q v (addC C HZ H')) u s') : CE outer P w HZ s Q u s' := by
  obtain ⟨v, H', os, bare, un, hok, r, q⟩ := h
  have cat : ∀ b o, HZ b = some (ObjO b o) → s.heap.get? b = some o := fun b o e => objO_at (ok b _ e)
  have cn : ∀ b, C b = true → H' b = none := fun b hb => by
    obtain ⟨o, e⟩ := O b hb
    exact un.free b o (cat b o e) (delC_in hb) (by simp)
  have at_ : ∀ c v, H' c = some v → addC C HZ H' c = some v := fun c v q => by
    rw [addC_out fun z => by rw [cn c z] at q; cases q]
    exact q
  have dn : ∀ b, HZ b = none → delC C HZ b = none := fun b e => by rw [delC_out (O.out e)]; exact e
  refine ⟨v, addC C HZ H', os, bare, ⟨fun b o e n hb hx => un.keep b o e (dn b n) hb hx, fun b o e n hb hx => un.slot b o e (dn b n) hb hx, fun b o e n hx => by rw [addC_out (O.out n)]; exact un.free b o e (dn b n) hx, un.there, fun b xs e => ?_, fun b o xs e => ?_, fun b ps e => ?_⟩, hok_add hok O cn fun b o hb e => ?_, r, q⟩
  · exact at_ _ _ (un.tups b xs (by rw [delC_out (O.ne e fun o z => ext_ne z)]; exact e))
  · exact at_ _ _ (un.frzs b o xs (by rw [delC_out (O.ne e fun o z => by unfold ObjO at z; cases z)]; exact e))
  · obtain ⟨m, z⟩ := un.tbls b ps (by rw [delC_out (O.ne e fun o z => by unfold ObjO at z; cases z)]; exact e)
    exact ⟨m, at_ _ _ z⟩
  · exact un.keep b o (cat b o e) (delC_in hb) (fun z => by rw [nf b z] at e; cases e) (by simp)
theorem cx_add (O : Objs C HZ) (ok : HOk P w HZ s.heap) (nf : ∀ b ∈ frs outer, HZ b = none) (h : L2.CX P w outer (delC C HZ) s (fun c d H' => E c d (addC C HZ H')) u s') : L2.CX P w outer HZ s E u s' := by
  obtain ⟨a, B, H', cls, d, e, fl, hok, un, na, os, bare, q⟩ := h
  have cat : ∀ b o, HZ b = some (ObjO b o) → s.heap.get? b = some o := fun b o e => objO_at (ok b _ e)
  have cn : ∀ b, C b = true → H' b = none := fun b hb => by
    obtain ⟨o, e⟩ := O b hb
    exact un.free b o (cat b o e) (delC_in hb)
  have at_ : ∀ c v, H' c = some v → addC C HZ H' c = some v := fun c v q => by
    rw [addC_out fun z => by rw [cn c z] at q; cases q]
    exact q
  have dn : ∀ b, HZ b = none → delC C HZ b = none := fun b e => by rw [delC_out (O.out e)]; exact e
  have inB : ∀ b o, C b = true → HZ b = some (ObjO b o) → B.get? b = some o := fun b o hb e => un.keep b o (cat b o e) (delC_in hb) (fun z => by rw [nf b z] at e; cases e)
  refine ⟨a, B, addC C HZ H', cls, d, e, fl, hok_add hok O cn inB, ⟨fun b o e n hb => un.keep b o e (dn b n) hb, un.slot, fun b o e n => by rw [addC_out (O.out n)]; exact un.free b o e (dn b n), un.there, fun b xs e => ?_, fun b o xs e => ?_, fun b ps e => ?_⟩, ?_, os, bare, q⟩
  · exact at_ _ _ (un.tups b xs (by rw [delC_out (O.ne e fun o z => ext_ne z)]; exact e))
  · exact at_ _ _ (un.frzs b o xs (by rw [delC_out (O.ne e fun o z => by unfold ObjO at z; cases z)]; exact e))
  · obtain ⟨m, z⟩ := un.tbls b ps (by rw [delC_out (O.ne e fun o z => by unfold ObjO at z; cases z)]; exact e)
    exact ⟨m, at_ _ _ z⟩
  · rw [addC_out fun z => by
      obtain ⟨o, eo⟩ := O a z
      have := inB a o z eo
      rw [fl.2.1] at this
      cases this]
    exact na
/-- behind a call begun with the cells known -/
theorem ce_del {G : Hp} (O : Objs C HZ) (g : ∀ b, G b = delC C HZ b) (nf : ∀ b ∈ frs outer, ¬ C b = true) (h : CE outer P w HZ s (fun v H' => Same HZ H' ∧ Q v (delC C H')) u s') (cat : ∀ b o, HZ b = some (ObjO b o) → s.heap.get? b = some o) : CE outer P w G s Q u s' := by
  obtain ⟨v, H', os, bare, un, hok, r, sm, q⟩ := h
  have gn : ∀ b, ¬ C b = true → G b = none → HZ b = none := fun b hb e => by rw [g b, delC_out hb] at e; exact e
  have gs : ∀ b v, G b = some v → ¬ C b = true ∧ HZ b = some v := fun b v e => by
    rw [g b] at e
    by_cases hb : C b = true
    · rw [delC_in hb] at e
      cases e
    · rw [delC_out hb] at e
      exact ⟨hb, e⟩
  refine ⟨v, delC C H', os, bare, ⟨fun b o e n hb hx => ?_, fun b o e n hb hx => un.slot b o e (gn b (nf b hb) n) hb hx, fun b o e n hx => ?_, un.there, fun b xs e => ?_, fun b o xs e => ?_, fun b ps e => ?_⟩, hok_del hok (O.up sm), r, q⟩
  · by_cases hc : C b = true
    · obtain ⟨o', eo⟩ := O b hc
      have z := cat b o' eo
      rw [e] at z
      cases z
      exact objO_at (hok b _ (sm _ _ eo))
    · exact un.keep b o e (gn b hc n) hb hx
  · by_cases hc : C b = true
    · exact delC_in hc
    · rw [delC_out hc]
      exact un.free b o e (gn b hc n) hx
  · obtain ⟨hc, e⟩ := gs _ _ e
    rw [delC_out hc]
    exact un.tups b xs e
  · obtain ⟨hc, e⟩ := gs _ _ e
    rw [delC_out hc]
    exact un.frzs b o xs e
  · obtain ⟨hc, e⟩ := gs _ _ e
    rw [delC_out hc]
    exact un.tbls b ps e
end
/-- the captured names as the cells in H bear them -/
structure CellsAt (X : Cx) (σ : L2.St) (H : Hp) : Prop where
  ok : X.Ok
  cov : ∀ b, CellsOf X b = true → ∃ o w', H b = some (ObjO b o) ∧ o.data = .cell w'
  loc : ∀ (i : Nat) (y : Str) (v : V), X.N[i]? = some y → σ[i]? = some (some v) → (X.env.scope.names.lookup y = some .cell ∨ X.env.scope.names.lookup y = some .free) → ∃ c o w', X.env.cells.lookup y = some c ∧ H c = some (ObjO c o) ∧ o.data = .cell (some w') ∧ RelV v w'
  len : σ.length = X.N.length
theorem CellsAt.objs {X : Cx} {σ : L2.St} {H : Hp} (h : CellsAt X σ H) : Objs (CellsOf X) H := fun b hb => by
  obtain ⟨o, _, e, _⟩ := h.cov b hb
  exact ⟨o, e⟩
theorem CellsAt.up {X : Cx} {σ : L2.St} {H H' : Hp} (h : CellsAt X σ H) (s : Same H H') : CellsAt X σ H' :=
  ⟨h.ok, fun b hb => by
    obtain ⟨o, w', e, d⟩ := h.cov b hb
    exact ⟨o, w', s _ _ e, d⟩, fun i y v h1 h2 h3 => by
    obtain ⟨c, o, w', e, e2, r⟩ := h.loc i y v h1 h2 h3
    exact ⟨c, o, w', e, s _ _ e2, r⟩, h.len⟩
section
variable {X : Cx} {σ : L2.St} {HZ : Hp} {s1 : Shared}
/-- the lambda's body begins -/
theorem lam_start3 {A : Around} {outer : List Env} {E : XK} {scope : Scope} {f c' : Addr} {h₁ : Heap} {tk : Nat} (D : CellsAt X σ HZ) (L : LamS X.env.scope scope) (e0 : Env0 X.prog X.w X.K X.mg X.base A outer s1 HZ) (hd : A.handled = none)
    (hns : h₁.Ns s1.heap.objs.size fun y => ([] : List (Str × Value)).reverse.lookup y) (kp : ∀ b o, s1.heap.get? b = some o → h₁.get? b = some o) :
    Inv (lamCx X A outer s1 (delC (CellsOf X) HZ) E scope f c') [] σ (delC (CellsOf X) HZ) { s1 with heap := h₁, toks := tk } := by
  have hfree := L.has D.ok
  have cm : ∀ {y c}, (cloFrom X.env.cells scope.names []).lookup y = some c → X.env.cells.lookup y = some c := fun {y c} e => by
    rcases cloFrom_mem (PySem.mem_of_lookup e) with hm | ⟨h1, h2⟩
    · cases hm
    · obtain ⟨c1, hc⟩ := hfree _ h1 rfl
      have hc : X.env.cells.lookup y = some c1 := hc
      have e2 : c = c1 := by
        rw [h2, hc] <;> rfl
      rw [e2]
      exact hc
  have look : ∀ {y}, scope.names.lookup y = some .free → ∃ c, (cloFrom X.env.cells scope.names []).lookup y = some c := fun {y} hl => by
    have hy : (y, NameKind.free) ∈ scope.names := PySem.mem_of_lookup hl
    exact mem_lookup (cloFrom_has (cells := X.env.cells) (acc := []) hy)
  have cat : ∀ b o, HZ b = some (ObjO b o) → s1.heap.get? b = some o := fun b o e => objO_at (e0.hok b _ e)
  have dn : ∀ b, HZ b = none → delC (CellsOf X) HZ b = none := fun b e => by rw [delC_out (D.objs.out e)]; exact e
  have noA : ∀ b : Addr, b ∉ (lamCx X A outer s1 (delC (CellsOf X) HZ) E scope f c').ex := fun b z => absurd (show b ∈ ([] : List Addr) from z) (by simp)
  have hok := hok_del e0.hok D.objs
  refine ⟨⟨e0.mod, L.kind, rfl, rfl, Nat.le_refl _, fun y z c e1 e2 => D.ok.inj y z c (cm e1) (cm e2), fun y hy => ?_, fun y c z _ => ?_, fun _ => hd, Around.frames_deeper e0.frames, .inr ⟨rfl, rfl⟩, fun b z => absurd z (noA b), fun b o e => ⟨(e0.bs b o e).1, dn b (e0.bs b o e).2⟩, e0.bsz, fun b _ _ => noA b,
      fun b z => absurd z (noA b), e0.funs, fun b hb => dn b (e0.frf b hb)⟩,
    rfl, e0.bare, Un.kept kp, ⟨_, hns, fun i y v e1 e2 e3 => ?_⟩, fun y c e => ?_, hok.fresh (Nat.le_refl _), fun y c e => delC_in (cellsOf_at (cm e)), fun q hq => absurd (show q ∈ ([] : List (Addr × Obj)) ++ [] from hq) (by simp), hok.kept kp, D.len⟩
  · have hy : scope.names.lookup y = some .cell ∨ scope.names.lookup y = some .free := hy
    rcases hy with hy | hy
    · exact absurd rfl (L.own _ (PySem.mem_of_lookup hy)).2
    · exact look hy
  · have z : false = true := z
    cases z
  · have e3 : Vis scope y := e3
    rcases e3 with k | k | k
    · exact absurd rfl (L.own _ (PySem.mem_of_lookup k)).1
    · exact absurd rfl (L.own _ (PySem.mem_of_lookup k)).2
    · obtain ⟨c3, o, w', e', eo, od, r⟩ := D.loc i y v e1 e2 (L.free _ (PySem.mem_of_lookup k) rfl)
      obtain ⟨c2, h2⟩ := look k
      have c1 := cm h2
      rw [c1] at e'
      cases e'
      exact ⟨w', r, .inr ⟨.inr k, _, h2, o, kp _ _ (cat _ _ eo), od⟩⟩
  · obtain ⟨o, w', eo, od⟩ := D.cov c (cellsOf_at (cm e))
    exact ⟨w', o, kp _ _ (cat _ _ eo), od⟩
/-- a lambda that is laid may be called -/
theorem act_lam {scope : Scope} {f c' : Addr} {pm ctv : Value} {params : Arguments} {body : Expr} {k : Nat} {t : XK → TE} {E : XK} {Q : VK} (D : CellsAt X σ HZ) (L : LamS X.env.scope scope)
    (hf : HZ f = some (ObjO f (PySem.W.kla_obj "<lambda>" (X.env.qual ++ "<lambda>") params body scope (cloFrom X.env.cells scope.names []) pm c' ctv))) (hc : HZ c' = some (CodeO c' (X.env.qual ++ "<lambda>")))
    (hbind : bindArgs (PySem.W.kla_fn "<lambda>" (X.env.qual ++ "<lambda>") params body scope (cloFrom X.env.cells scope.names []) pm (.ref c') ctv) ⟨[], []⟩ = pure [])
    (hbody : ∀ (A : Around) (outer : List Env) (s : Shared) (H : Hp) (E : XK) (f c' : Addr), Room k (A.deeper (lamEnv X scope s.heap.objs.size f c')) → PE (lamCx X A outer s H E scope f c') body (t E))
    (ht : t (fun c d H' => E c d (addC (CellsOf X) HZ H')) σ (delC (CellsOf X) HZ) (fun v H' => Q v (addC (CellsOf X) HZ H'))) : Act X.prog X.w X.K X.mg X.base (k + 1) f HZ E Q := by
  intro A outer s1 hr e0
  have of1 := objO_at (e0.hok f _ hf)
  obtain ⟨⟨oc, vs, t', hoc, hdc, hvc⟩, _, _⟩ := e0.hok c' _ hc
  refine PySem.W.kla_callFunE hr.depth of1 rfl L.co L.gen rfl ⟨c', oc, vs, t', rfl, hoc, hdc, hvc⟩ ?_
  have lim : s1.heap.NoLimit := e0.mod.nolimit.keeps fun b o e => (e0.bs b o e).1
  rw [hbind]
  refine wpAny_pure (wpAny_newFunctionEnv (fun y hy => (L.own y hy).2) (fun y hy => absurd hy (by simp)) (fun h₁ hns hsb => ⟨lim.fresh _ hsb, ?_⟩) L.kind)
  show codeAny _ _ (.expr body (lamEnv X scope s1.heap.objs.size f c')) _ _
  have kp : ∀ b o, s1.heap.get? b = some o → h₁.get? b = some o := fun b o e => hsb.extBut b o (Nat.ne_of_lt (Heap.lt_size e)) (Heap.get?_push_of_some _ e)
  have J : Inv (lamCx X A outer s1 (delC (CellsOf X) HZ) (fun c d H' => E c d (addC (CellsOf X) HZ H')) scope f c') [] σ (delC (CellsOf X) HZ) { s1 with heap := h₁, toks := s1.toks + ([] : List (Str × Value)).length } :=
    lam_start3 D L e0 hr.hd hns kp
  refine PySem.W.kla_codeExpr (wpAny_mono ((hbody A outer s1 (delC (CellsOf X) HZ) _ f c' (hr.deeper _)).run [] _ _ _ _ J ht) (fun v s' hq => ?_) fun e s' hq => ?_)
  · obtain ⟨w', H', J', rv, q⟩ := hq
    exact ce_add D.objs e0.hok e0.frf ⟨w', H', J'.os, J'.bare, J'.base, J'.hok, rv, q⟩
  · refine wpAny_mono hq (fun _ s'' q => ?_) fun e' s'' q => ?_
    · exact cx_add D.objs e0.hok e0.frf q
    · exact cx_add D.objs e0.hok e0.frf q
end
section
variable {X : Cx} {pins : List (Addr × Obj)} {σ : L2.St} {H : Hp} {s : Shared}
/-- the heap with the cells known -/
def withC (X : Cx) (h : Heap) (H : Hp) : Hp := fun b => if CellsOf X b = true then (h.get? b).map (ObjO b) else H b
theorem cells_at (I : Inv X pins σ H s) : CellsAt X σ (withC X s.heap H) := by
  have at_ : ∀ y c, X.env.cells.lookup y = some c → ∀ o, s.heap.get? c = some o → withC X s.heap H c = some (ObjO c o) := fun y c e o h => by
    unfold withC
    rw [if_pos (cellsOf_at e), h]
    rfl
  refine ⟨I.ok, fun b hb => ?_, fun i y v e1 e2 e3 => ?_, I.len⟩
  · obtain ⟨y, e⟩ := of_cellsOf hb
    obtain ⟨v, o, ho, hd⟩ := I.cell y b e
    exact ⟨o, v, at_ y b e o ho, hd⟩
  · obtain ⟨m, hn, hl⟩ := I.loc
    obtain ⟨w', r, q⟩ := hl i y v e1 e2 (e3.elim (fun k => .inr (.inl k)) fun k => .inr (.inr k))
    rcases q with ⟨k', _⟩ | ⟨_, c3, e', o, ho, hd⟩
    · have k' : X.env.scope.names.lookup y = some .local := k'
      rcases e3 with k2 | k2 <;> rw [k2] at k' <;> cases k'
    · exact ⟨c3, o, w', e', at_ _ _ e' o ho, hd, r⟩
theorem withC_out {h : Heap} {b : Addr} (hb : ¬ CellsOf X b = true) : withC X h H b = H b := if_neg hb
theorem cells_none (I : Inv X pins σ H s) {b : Addr} (hb : CellsOf X b = true) : H b = none := by
  obtain ⟨y, e⟩ := of_cellsOf hb
  exact I.freeC y b e
theorem withC_same (I : Inv X pins σ H s) : Same H (withC X s.heap H) := fun b o e => by
  rw [withC_out fun z => by rw [cells_none I z] at e; cases e]
  exact e
theorem withC_del (I : Inv X pins σ H s) (b : Addr) : H b = delC (CellsOf X) (withC X s.heap H) b := by
  by_cases hb : CellsOf X b = true
  · rw [delC_in hb, cells_none I hb]
  · rw [delC_out hb, withC_out hb]
theorem cells_new (I : Inv X pins σ H s) (hfn : ∀ y, X.fn y = true) {b : Addr} (hb : CellsOf X b = true) : X.s_0.heap.objs.size ≤ b := by
  obtain ⟨y, e⟩ := of_cellsOf hb
  exact I.ok.cab y b (hfn y) e
theorem cells_nofr (I : Inv X pins σ H s) (hfn : ∀ y, X.fn y = true) {b : Addr} (hf : b ∈ frs X.stack) : ¬ CellsOf X b = true := fun hb => by
  rcases List.mem_cons.mp (I.stkSub _ hf) with e | e
  · obtain ⟨y, h⟩ := of_cellsOf hb
    exact I.cne y b h e
  · obtain ⟨_, o, ho, _⟩ := I.ok.funs.mem e
    exact absurd (Nat.lt_of_lt_of_le (Heap.lt_size ho) (cells_new I hfn hb)) (Nat.lt_irrefl _)
/-- a call is begun with the cells known -/
theorem env0_with (I : Inv X pins σ H s) (hfn : ∀ y, X.fn y = true) : Env0 X.prog X.w X.K X.mg X.base X.A X.stack s (withC X s.heap H) := by
  have e0 := I.env0
  refine ⟨e0.frames, e0.mod, fun b o e => ⟨(e0.bs b o e).1, ?_⟩, e0.bsz, e0.funs, fun b hb => ?_, fun b u e => ?_, e0.bare⟩
  · rw [withC_out fun z => absurd (Nat.lt_of_lt_of_le (Heap.lt_size e) (Nat.le_trans I.ok.bsz (cells_new I hfn z))) (Nat.lt_irrefl _)]
    exact (e0.bs b o e).2
  · rw [withC_out (cells_nofr I hfn hb)]
    exact e0.frf b hb
  · by_cases hb : CellsOf X b = true
    · unfold withC at e
      rw [if_pos hb] at e
      cases q : s.heap.get? b with
      | none => rw [q] at e; cases e
      | some o =>
        rw [q] at e
        cases e
        exact objO_ok q
    · rw [withC_out hb] at e
      exact (e0.hok b u e).stay (fun _ _ _ q => q) (fun c q => withC_same I _ _ q) fun c xs q => withC_same I _ _ q
/-- f(..), whose promise is asked with the cells known -/
def tCallM (X : Cx) (sp : Sp) (t : TA) : TE := fun σ H Q => t σ H fun vs H1 => (∀ b, CellsOf X b = true → H1 b = none) → ∀ HZ, Same H1 HZ → (∀ b, H1 b = delC (CellsOf X) HZ b) → CellsAt X σ HZ → sp vs HZ (fun v H' => Same HZ H' ∧ Q v (delC (CellsOf X) H')) (fun _ _ _ => False)
theorem pe_callM {k : Nat} {f : Addr} {fd : FuncData} {ps : List Str} {sp : Sp} {x : Str} {p pos : Pos} {e : Expr} {es : List Expr} {t : TA} (hfn : ∀ y, X.fn y = true) (F : FnOk X.prog X.w X.K X.mg X.base CX0 k f fd ps sp) (hr : Room k X.A) (hg : Gl X x) (hm : X.mg x = some (.ref f)) (hk : PySem.W.keepIn X.K (.ref f) = true) (hb : L2.Binds X.K fd ps []) (ha : PA X (e :: es) t)
    (hdb : (x == ("__debug__" : Str)) = false := by decide)
    (he : starEach (e :: es) X.env = (false, eval e X.env) :: starEach es X.env := by rfl) (hpl : (backTo pos (starEach es X.env)).any (·.1) = false := by rfl) : PE X (.Call (.Name x p) (e :: es) [] pos) (tCallM X sp t) := by
  refine ⟨fun pins s σ H Q I h => ?_⟩
  refine wpAny_Call_Name_kw (ld_glob I hg hm ?_ hdb)
  refine PySem.W.callWith_K (h₀ := X.base) I.ok.mod.kin hk (thn (ha.run pos pins s σ _ _ I h) fun us s2 ⟨vs, H1, I2, r, q⟩ => ⟨I2.kIn, ?_⟩) he hpl
  have q := q (fun b hb => cells_none I2 hb) (withC X s2.heap H1) (withC_same I2) (withC_del I2) (cells_at I2)
  have hl : (us ++ []).length = ps.length := by rw [List.append_nil, ← r.length]; exact F.len _ _ _ _ q
  have hB := hb s2 us I2.kIn hl
  rw [List.append_nil] at hB
  refine wpAny_call (codeAny_mono (F.run X.A X.stack s2 _ ⟨us, []⟩ us vs _ _ hr (env0_with I2 hfn) hB r q) fun r s' hq => ?_)
  cases r with
  | error e => exact (show False from hq).elim
  | ok fl =>
    cases fl with
    | ret u => exact I2.after (ce_del (cells_at I2).objs (fun b => withC_del I2 b) (fun b hb => cells_nofr I2 hfn hb) hq fun b o e => objO_at ((env0_with I2 hfn).hok b _ e))
    | next => exact False.elim hq
    | brk => exact False.elim hq
    | cont => exact False.elim hq
end
section
variable {X : Cx} {pins : List (Addr × Obj)} {σ : L2.St} {H : Hp} {s : Shared}
/-- the lambda is made and known -/
theorem lam_make3 {T : List (Addr × Str)} {c P : Addr} {params : Arguments} {body : Expr} {scope : Scope} {pos : Pos} {E : Value → Shared → Prop} {Q : Value → Shared → Prop} (I : Inv X pins σ H s) (TB : TabB X.base X.mg c P) (hcode : X.env.code = .ref c)
    (hm : (P, X.env.qual ++ "<lambda>") ∈ T) (hu : ∀ p ∈ T, p.1 = P → p.2 = X.env.qual ++ "<lambda>") (hT : Tabs T H) (hdef : defaultsOf params X.env = ([], [])) (hfree : ∀ y ∈ scope.names, y.2 = .free → ∃ c, X.env.cells.lookup y.1 = some c)
    (h : ∀ (f c' : Addr) (pm ctv : Value) (H1 : Hp) (s' : Shared), Inv X pins σ H1 s' → ExtN H H1 → Tabs T H1 → H f = none →
      H1 f = some (ObjO f (PySem.W.kla_obj "<lambda>" (X.env.qual ++ "<lambda>") params body scope (cloFrom X.env.cells scope.names []) pm c' ctv)) → H1 c' = some (CodeO c' (X.env.qual ++ "<lambda>")) → Q (.ref f) s') :
    wpAny (model X.prog X.w) X.A (eval (.Lambda params body scope pos) X.env) Q E s := by
  obtain ⟨ps, hP, ht, ha⟩ := hT _ hm
  refine PySem.W.kla_eval hdef ?_
  have bP : s.heap.BuiltinsAt X.mg P := TB.bm.keeps I.bk
  have hP' : s.heap.get? P = some { cls := .none, data := .fields ps } := I.hok P _ hP
  cases hc : codeAmong pos ps.toList with
  | none =>
    refine PySem.W.kla_makeFunction (mg := X.mg) (c := c) (P := P) (ps := ps) (closure_ok hfree) I.ok.glob (I.mod.glob.keeps I.bk) hcode (TB.code.keeps I.bk) hP' ht hc TB.gP bP fun c' ctv h' tk hx hge hlt hrec htb => ?_
    obtain ⟨c2, oc, vs, t, e2, hoc, hd, hv⟩ := hrec
    cases e2
    have hsz : s.heap.objs.size ≤ h'.objs.size := Nat.le_trans hge (Nat.le_of_lt hlt)
    have nC : H c' = none := I.hok.fresh hge
    have nF : H h'.objs.size = none := I.hok.fresh hsz
    have I0 := inv_table (t' := tk) (more := #[rawInt pos.line, rawInt pos.col, .ref c']) (h' := h') I hP
      (fun b o hb e => hx b o hb e) htb hge ⟨oc, vs, t, hoc, hd, hv⟩
    have hE : ExtN H (upd (upd H P (.tbl (ps ++ #[rawInt pos.line, rawInt pos.col, .ref c']))) c' (CodeO c' (X.env.qual ++ "<lambda>"))) := fun b o e n => by
      rw [upd_ne (ne_of_none e nC), upd_ne (fun z => n ps (Option.some.inj (e.symm.trans (by rw [z]; exact hP))))]
      exact e
    have eL : (ps ++ #[rawInt pos.line, rawInt pos.col, .ref c']).toList = ps.toList ++ [rawInt pos.line, rawInt pos.col, .ref c'] := by simp
    have hT1 : Tabs T (upd (upd H P (.tbl (ps ++ #[rawInt pos.line, rawInt pos.col, .ref c']))) c' (CodeO c' (X.env.qual ++ "<lambda>"))) := fun p hp => by
      by_cases hb : p.1 = P
      · rw [hu p hp hb, hb]
        refine ⟨_, by rw [upd_ne (ne_of_none hP nC), upd_same], by rw [eL]; exact PySem.TriplesOk_snoc _ _ _ _ ht, fun p' cv hcv => ?_⟩
        rw [eL] at hcv
        rcases among_app _ ht hcv with z | z
        · obtain ⟨c0, e1, e2⟩ := ha p' cv z
          exact ⟨c0, e1, hE _ _ e2 codeO_ne⟩
        · exact ⟨c', z, upd_same⟩
      · obtain ⟨ps', a1, a2, a3⟩ := hT p hp
        refine ⟨ps', by rw [upd_ne (ne_of_none a1 nC), upd_ne hb]; exact a1, a2, fun p' cv hcv => ?_⟩
        obtain ⟨c0, e1, e2⟩ := a3 p' cv hcv
        exact ⟨c0, e1, hE _ _ e2 codeO_ne⟩
    have eC : (upd (upd H P (.tbl (ps ++ #[rawInt pos.line, rawInt pos.col, .ref c']))) c' (CodeO c' (X.env.qual ++ "<lambda>"))) c' = some (CodeO c' (X.env.qual ++ "<lambda>")) := upd_same
    have nF1 : (upd (upd H P (.tbl (ps ++ #[rawInt pos.line, rawInt pos.col, .ref c']))) c' (CodeO c' (X.env.qual ++ "<lambda>"))) h'.objs.size = none := I0.hok.fresh (Nat.le_refl _)
    generalize upd (upd H P (.tbl (ps ++ #[rawInt pos.line, rawInt pos.col, .ref c']))) c' (CodeO c' (X.env.qual ++ "<lambda>")) = H1 at I0 hE hT1 eC nF1
    have I1 := I0.laid (t' := tk) (a := h'.objs.size) (o := ObjO h'.objs.size (PySem.W.kla_obj "<lambda>" (X.env.qual ++ "<lambda>") params body scope (cloFrom X.env.cells scope.names []) ((X.mg "__name__").getD .none) c' ctv)) (fun b u e => Heap.get?_push_of_some _ e) (Nat.le_refl _) (objO_ok (Heap.get?_push_size h' rfl))
    have S1 := same_new' (o := ObjO h'.objs.size (PySem.W.kla_obj "<lambda>" (X.env.qual ++ "<lambda>") params body scope (cloFrom X.env.cells scope.names []) ((X.mg "__name__").getD .none) c' ctv)) nF1
    exact h h'.objs.size c' ((X.mg "__name__").getD .none) ctv _ _ I1 (hE.trans (.of S1)) (hT1.ext S1) nF upd_same (S1 _ _ eC)
  | some cv =>
    obtain ⟨c', e, hco⟩ := ha pos cv hc
    subst e
    refine PySem.W.kla_makeFunctionHit (mg := X.mg) (c := c) (P := P) (ps := ps) (closure_ok hfree) I.ok.glob (I.mod.glob.keeps I.bk) hcode (TB.code.keeps I.bk) hP' ht hc bP fun ctv h' tk hx hsz => ?_
    have I0 : Inv X pins σ H { s with heap := h', toks := tk } := I.kept fun b o e => hx b o e
    have nF : H h'.objs.size = none := I0.hok.fresh (Nat.le_refl _)
    have I1 := I0.laid (t' := tk) (a := h'.objs.size) (o := ObjO h'.objs.size (PySem.W.kla_obj "<lambda>" (X.env.qual ++ "<lambda>") params body scope (cloFrom X.env.cells scope.names []) ((X.mg "__name__").getD .none) c' ctv)) (fun b u e => Heap.get?_push_of_some _ e) (Nat.le_refl _) (objO_ok (Heap.get?_push_size h' rfl))
    have S1 := same_new' (o := ObjO h'.objs.size (PySem.W.kla_obj "<lambda>" (X.env.qual ++ "<lambda>") params body scope (cloFrom X.env.cells scope.names []) ((X.mg "__name__").getD .none) c' ctv)) nF
    exact h h'.objs.size c' ((X.mg "__name__").getD .none) ctv _ _ I1 (.of S1) (hT.ext S1) nF upd_same (S1 _ _ hco)
/-- f is the lambda of X with this body -/
def LamO (X : Cx) (params : Arguments) (body : Expr) (scope : Scope) (H : Hp) (f : Addr) : Prop := ∃ (c' : Addr) (pm ctv : Value), H f = some (ObjO f (PySem.W.kla_obj "<lambda>" (X.env.qual ++ "<lambda>") params body scope (cloFrom X.env.cells scope.names []) pm c' ctv)) ∧ H c' = some (CodeO c' (X.env.qual ++ "<lambda>"))
theorem tblO_ne {a : Addr} {o : Obj} (ps : Array Value) : ObjO a o ≠ .tbl ps := fun z => by
  unfold ObjO at z
  cases z
theorem LamO.ext {params : Arguments} {body : Expr} {scope : Scope} {H H' : Hp} {f : Addr} (h : LamO X params body scope H f) (e : ExtN H H') : LamO X params body scope H' f := by
  obtain ⟨c', pm, ctv, h1, h2⟩ := h
  exact ⟨c', pm, ctv, e _ _ h1 tblO_ne, e _ _ h2 codeO_ne⟩
def tMkLam (X : Cx) (T : List (Addr × Str)) (params : Arguments) (body : Expr) (scope : Scope) : TE := fun σ H Q => Tabs T H ∧ ∀ f H1, ExtN H H1 → Tabs T H1 → H f = none → LamO X params body scope H1 f → Q (.ref f) H1
theorem pe_lam {T : List (Addr × Str)} {c P : Addr} {params : Arguments} {body : Expr} {scope : Scope} {pos : Pos} (TB : TabB X.base X.mg c P) (hcode : X.env.code = .ref c)
    (hm : (P, X.env.qual ++ "<lambda>") ∈ T) (hu : ∀ p ∈ T, p.1 = P → p.2 = X.env.qual ++ "<lambda>") (L : LamS X.env.scope scope) (hdef : defaultsOf params X.env = ([], [])) : PE X (.Lambda params body scope pos) (tMkLam X T params body scope) := by
  refine ⟨fun pins s σ H Q I h => ?_⟩
  exact lam_make3 I TB hcode hm hu h.1 hdef (L.has I.ok) fun f c' pm ctv H1 s' I1 e t nf hf hc => ⟨.ref f, H1, I1, rfl, h.2 f H1 e t nf ⟨c', pm, ctv, hf, hc⟩⟩
/-- x(), x a lambda that is laid -/
def tAct (X : Cx) (k i : Nat) (E : XK) : TE := fun σ H Q => ∃ f, σ[i]? = some (some (.ref f)) ∧ (∃ (nm q : Str) (params : Arguments) (body : Expr) (scope : Scope) (cl : List (Str × Addr)) (pm ctv : Value) (c' : Addr), H f = some (ObjO f (PySem.W.kla_obj nm q params body scope cl pm c' ctv))) ∧ Act X.prog X.w X.K X.mg X.base k f H E Q
theorem pe_act0 {k i : Nat} {x : Str} {p pos : Pos} {E : XK} (hr : Room k X.A) (hN : X.N[i]? = some x) (hv : Vis X.env.scope x) (hx : Passes (L2.CX X.prog X.w) X E)
    (hdb : (x == ("__debug__" : Str)) = false := by decide) (hcd : (x == ("__classdict__" : Str)) = false := by decide) : PE X (.Call (.Name x p) [] [] pos) (tAct X k i E) := by
  refine ⟨fun pins s σ H Q I h => ?_⟩
  obtain ⟨f, hs, ⟨nm, q, params, body, scope, cl, pm, ctv, c', hf⟩, ha⟩ := h
  refine wpAny_Call_Name_kw (thn ((pe_var (pos := p) hN hv hdb hcd).run pins s σ H (fun v H1 => v = .ref f ∧ H1 = H) I ⟨.ref f, hs, rfl, rfl⟩) fun u s1 ⟨v, H1, I1, r1, q1⟩ => ?_)
  obtain ⟨rfl, rfl⟩ := q1
  cases r1
  have of1 := objO_at (I1.hok f _ hf)
  refine PySem.W.callWith_F0 ⟨_, _, _, _, of1⟩ ?_
  refine wpAny_call (codeAny_mono (ha X.A X.stack s1 hr I1.env0) fun r s' hq => ?_)
  cases r with
  | error e => exact hx pins σ _ s1 e s' I1 hq
  | ok fl =>
    cases fl with
    | ret u => exact I1.after hq
    | next => exact False.elim hq
    | brk => exact False.elim hq
    | cont => exact False.elim hq
end
end Kx
/-! What an error is told as. -/
namespace K14
open PySem PySem.Spec PyProof.Rows L2 Kx LamX
section
variable {P : Program} {w : World} {K : PySem.W.Frag} {mg : Str → Option Value} {base : Heap}
def cls (T : Tx K mg) : List Addr := [T.CInvalidTerm, T.CInvalidFact, T.CInvalidName, T.CInvalidOperation, T.CParseError]
/-- of which of the classes an error of the class D is -/
def row (K : PySem.W.Frag) (cs : List Addr) (D : Addr) : List (Option Bool) := cs.map fun C => PySem.W.kitOne K (.ref D) (.ref C)
def one (j : Nat) : List (Option Bool) := (List.range 5).map fun i => some (decide (i = j))
structure Kind (T : Tx K mg) (C : Addr) (j : Nat) : Prop where
  p : PySem.W.exmOne K (.ref C) (.ref T.CPartError) = some true
  x : ExcC K C
  r : row K (cls T) C = one j
structure Kinds (T : Tx K mg) : Prop where
  t : Kind T T.CInvalidTerm 0
  f : Kind T T.CInvalidFact 1
  n : Kind T T.CInvalidName 2
  o : Kind T T.CInvalidOperation 3
/-- the error C, told as w -/
def Word (T : Tx K mg) (C : Addr) (w : Str) : Prop := ∃ j : Nat, [(T.CInvalidTerm, ("term" : Str)), (T.CInvalidFact, ("fact" : Str)), (T.CInvalidName, ("name" : Str)), (T.CInvalidOperation, ("operation" : Str))][j]? = some (C, w)
theorem wdT {T : Tx K mg} : Word T T.CInvalidTerm "term" := ⟨0, rfl⟩
theorem wdF {T : Tx K mg} : Word T T.CInvalidFact "fact" := ⟨1, rfl⟩
theorem wdN {T : Tx K mg} : Word T T.CInvalidName "name" := ⟨2, rfl⟩
theorem wdO {T : Tx K mg} : Word T T.CInvalidOperation "operation" := ⟨3, rfl⟩
theorem Word.kind {T : Tx K mg} (Y : Kinds T) {C : Addr} {w : Str} (h : Word T C w) : ∃ j, Kind T C j ∧ j < 4 ∧ [("term" : Str), "fact", "name", "operation"][j]? = some w := by
  obtain ⟨j, hj⟩ := h
  match j, hj with
  | 0, hj => cases hj; exact ⟨0, Y.t, by decide, rfl⟩
  | 1, hj => cases hj; exact ⟨1, Y.f, by decide, rfl⟩
  | 2, hj => cases hj; exact ⟨2, Y.n, by decide, rfl⟩
  | 3, hj => cases hj; exact ⟨3, Y.o, by decide, rfl⟩
  | j + 4, hj => cases hj
def ERaised (T : Tx K mg) (Q : VK) : XK := fun c d H => d = none ∧ ∃ (D : Addr) (w : Str), c = .ref D ∧ Word T D w ∧ ∀ H', Same H H' → Q (.str w) H'
def suiteOf : List Stmt → List Stmt
  | [.Try _ [.ExceptHandler _ _ b _] _ _ _, _] => b
  | _ => []
abbrev Zy (P : Program) (w : World) (K : PySem.W.Frag) (mg : Str → Option Value) (base : Heap) (g : Addr) (cdg : Value) (A : Around) (outer : List Env) (s : Shared) (H : Hp) : Cx := (cxOf CX0 P w K mg base N__law_error "_law_error" (defScope s__law_error) g cdg A outer s H C8.E0).nox
theorem suite_ex (T : Tx K mg) (g : Addr) (cdg : Value) (A : Around) (outer : List Env) (s : Shared) (H : Hp) (a D : Addr) : ∃ t : TS,
    (∀ (oe : Obj) (pn : List (Addr × Obj)), ExcC K D → Zc (.ref D) none oe → (∃ vs, oe.data = .fields vs) → PSs ((Zy P w K mg base g cdg A outer s H).suite a ((a, oe) :: pn)) (suiteOf (defBody s__law_error)) t) ∧
    ∀ (j : Nat) (w : Str) (E : Ends) (y0 y2 : Option V) (H : Hp), row K (cls T) D = one j → j < 4 → [("term" : Str), "fact", "name", "operation"][j]? = some w → (∀ H', Same H H' → E.rt (.str w) H') → t E [y0, some (.ref a), y2] H := by
  have nd := sc__law_error.nd
  apply Exists.intro
  constructor
  intro oe pn xC hz hf
  exact (pss_cons (ps_set (i := 2) nd rfl (.inl rfl) (pe_lst (pa_cons (pe_callB (call_isE xC hz hf) (by rfl) T.b_isinstance (by decide +kernel) (pa_cons (pv 1) (pa_cons (pe_glob (v := .ref T.CInvalidTerm) (by rfl) T.gInvalidTerm rfl) pa_nil))) (pa_cons (pe_callB (call_isE xC hz hf) (by rfl) T.b_isinstance (by decide +kernel) (pa_cons (pv 1) (pa_cons (pe_glob (v := .ref T.CInvalidFact) (by rfl) T.gInvalidFact rfl) pa_nil))) (pa_cons (pe_callB (call_isE xC hz hf) (by rfl) T.b_isinstance (by decide +kernel) (pa_cons (pv 1) (pa_cons (pe_glob (v := .ref T.CInvalidName) (by rfl) T.gInvalidName rfl) pa_nil))) pa_nil)))))
      (pss_cons (ps_set (i := 2) nd rfl (.inl rfl) (pe_op op_cat (pv 2) (pe_lst (pa_cons (pe_callB (call_isE xC hz hf) (by rfl) T.b_isinstance (by decide +kernel) (pa_cons (pv 1) (pa_cons (pe_glob (v := .ref T.CInvalidOperation) (by rfl) T.gInvalidOperation rfl) pa_nil))) (pa_cons (pe_callB (call_isE xC hz hf) (by rfl) T.b_isinstance (by decide +kernel) (pa_cons (pv 1) (pa_cons (pe_glob (v := .ref T.CParseError) (by rfl) T.gParseError rfl) pa_nil))) pa_nil)))))
      (pss_cons (ps_if (pt_cmpR op_ne (pe_bmK (X := (Zy P w K mg base g cdg A outer s H).suite a ((a, oe) :: pn)) (K := K) rfl PySem.F.plainAttrs_list PySem.F.slot_list_count PySem.F.type_list_count (r := rCountF K) mt_countF (pv 2) (pa_cons pe_bl pa_nil)) pe_int (nomark _)) (pss_one (ps_ret pe_str)) pss_nil)
      (pss_one (ps_ret (pe_ix (r := rIxL K) ix_list (pe_lst (pa_cons pe_str (pa_cons pe_str (pa_cons pe_str (pa_cons pe_str (pa_cons pe_str pa_nil)))))) (pe_bmK (X := (Zy P w K mg base g cdg A outer s H).suite a ((a, oe) :: pn)) (K := K) rfl PySem.F.plainAttrs_list PySem.F.slot_list_index PySem.F.type_list_index (r := rIndex K) mt_index (pv 2) (pa_cons pe_bl pa_nil)) (fun _ _ => rfl)))))))
  intro j w E y0 y2 H hr hj hw q
  have hr' : [PySem.W.kitOne K (.ref D) (.ref T.CInvalidTerm), PySem.W.kitOne K (.ref D) (.ref T.CInvalidFact), PySem.W.kitOne K (.ref D) (.ref T.CInvalidName), PySem.W.kitOne K (.ref D) (.ref T.CInvalidOperation), PySem.W.kitOne K (.ref D) (.ref T.CParseError)] =
      [some (decide (0 = j)), some (decide (1 = j)), some (decide (2 = j)), some (decide (3 = j)), some (decide (4 = j))] := hr
  simp only [List.cons.injEq] at hr'
  obtain ⟨k0, k1, k2, k3, k4, _⟩ := hr'
  refine ⟨_, rfl, _, _, _, rfl, fun u r => r, k0, _, rfl, _, _, _, rfl, fun u r => r, k1, _, rfl, _, _, _, rfl, fun u r => r, k2, (by show 3 ≤ sizeLine; decide), fun l1 nl1 => ?_⟩
  have s1 := same_new' (o := .lst [.bl (decide (0 = j)), .bl (decide (1 = j)), .bl (decide (2 = j))]) nl1
  have e1 : (upd H l1 (.lst [.bl (decide (0 = j)), .bl (decide (1 = j)), .bl (decide (2 = j))])) l1 = some (.lst [.bl (decide (0 = j)), .bl (decide (1 = j)), .bl (decide (2 = j))]) := upd_same
  generalize upd H l1 (.lst [.bl (decide (0 = j)), .bl (decide (1 = j)), .bl (decide (2 = j))]) = H1 at s1 e1 ⊢
  refine ⟨_, rfl, _, rfl, _, _, _, rfl, fun u r => r, k3, _, rfl, _, _, _, rfl, fun u r => r, k4, (by show 2 ≤ sizeLine; decide), fun d1 nd1 => ?_⟩
  have sd1 := same_new' (o := .lst [.bl (decide (3 = j)), .bl (decide (4 = j))]) nd1
  refine ⟨l1, d1, _, _, rfl, rfl, sd1 _ _ e1, upd_same, (by show 3 + 2 ≤ sizeLine; decide), fun l2 nl2 => ?_⟩
  have s2 := s1.trans (sd1.trans (same_new' (o := .lst ([.bl (decide (0 = j)), .bl (decide (1 = j)), .bl (decide (2 = j))] ++ [.bl (decide (3 = j)), .bl (decide (4 = j))])) nl2))
  have e2 : (upd (upd H1 d1 (.lst [.bl (decide (3 = j)), .bl (decide (4 = j))])) l2 (.lst ([.bl (decide (0 = j)), .bl (decide (1 = j)), .bl (decide (2 = j))] ++ [.bl (decide (3 = j)), .bl (decide (4 = j))]))) l2 = some (.lst [.bl (decide (0 = j)), .bl (decide (1 = j)), .bl (decide (2 = j)), .bl (decide (3 = j)), .bl (decide (4 = j))]) := upd_same
  generalize upd (upd H1 d1 (.lst [.bl (decide (3 = j)), .bl (decide (4 = j))])) l2 (.lst ([.bl (decide (0 = j)), .bl (decide (1 = j)), .bl (decide (2 = j))] ++ [.bl (decide (3 = j)), .bl (decide (4 = j))])) = H2 at s2 e2 ⊢
  have hj3 : j = 0 ∨ j = 1 ∨ j = 2 ∨ j = 3 := by omega
  rcases hj3 with rfl | rfl | rfl | rfl
  all_goals cases hw
  all_goals refine ⟨_, rfl, .inl ⟨rfl, _, SqL.of e2⟩, l2, _, _, rfl, rfl, SqL.of e2, rfl, rfl, rfl, _, rfl, iteF ?_⟩
  all_goals refine ⟨(by show 5 ≤ sizeLine; decide), fun w1 nw1 => ?_⟩
  all_goals have sw1 := same_new' (o := .lst [.str "term", .str "fact", .str "name", .str "operation", .str "parse"]) nw1
  all_goals have ew1 : (upd H2 w1 (.lst [.str "term", .str "fact", .str "name", .str "operation", .str "parse"])) w1 = some (.lst [.str "term", .str "fact", .str "name", .str "operation", .str "parse"]) := upd_same
  all_goals generalize upd H2 w1 (.lst [.str "term", .str "fact", .str "name", .str "operation", .str "parse"]) = H3 at sw1 ew1 ⊢
  · exact ⟨_, rfl, .inl ⟨rfl, _, SqL.of (sw1 _ _ e2)⟩, l2, _, _, 0, _, rfl, rfl, SqL.of (sw1 _ _ e2), rfl, rfl, rfl, rfl, (fun m z hm => by omega), w1, _, 0, _, rfl, rfl, SqL.of ew1, atI_nat (j := 0) rfl, q _ (s2.trans sw1)⟩
  · exact ⟨_, rfl, .inl ⟨rfl, _, SqL.of (sw1 _ _ e2)⟩, l2, _, _, 1, _, rfl, rfl, SqL.of (sw1 _ _ e2), rfl, rfl, rfl, rfl, (fun m z hm h => by
      obtain rfl : m = 0 := by omega
      cases h
      rfl), w1, _, 1, _, rfl, rfl, SqL.of ew1, atI_nat (j := 1) rfl, q _ (s2.trans sw1)⟩
  · exact ⟨_, rfl, .inl ⟨rfl, _, SqL.of (sw1 _ _ e2)⟩, l2, _, _, 2, _, rfl, rfl, SqL.of (sw1 _ _ e2), rfl, rfl, rfl, rfl, (fun m z hm h => by
      obtain rfl | rfl : m = 0 ∨ m = 1 := by omega
      · cases h
        rfl
      · cases h
        rfl), w1, _, 2, _, rfl, rfl, SqL.of ew1, atI_nat (j := 2) rfl, q _ (s2.trans sw1)⟩
  · exact ⟨_, rfl, .inl ⟨rfl, _, SqL.of (sw1 _ _ e2)⟩, l2, _, _, 3, _, rfl, rfl, SqL.of (sw1 _ _ e2), rfl, rfl, rfl, rfl, (fun m z hm h => by
      obtain rfl | rfl | rfl : m = 0 ∨ m = 1 ∨ m = 2 := by omega
      all_goals
        cases h
        rfl), w1, _, 3, _, rfl, rfl, SqL.of ew1, atI_nat (j := 3) rfl, q _ (s2.trans sw1)⟩
/-- the lambda at f, called, ends in an error told as w, or else in no error -/
def Ends (T : Tx K mg) (P : Program) (w : World) (base : Heap) (k : Nat) (H : Hp) (f : Addr) (wd : Str) : Prop :=
  (∃ (nm q : Str) (params : Arguments) (body : Expr) (scope : Scope) (cl : List (Str × Addr)) (pm ctv : Value) (c' : Addr), H f = some (ObjO f (PySem.W.kla_obj nm q params body scope cl pm c' ctv))) ∧
  ∀ (H' : Hp) (Q : VK), Same H H' → (∀ H'', Same H' H'' → Q (.str wd) H'') → Act P w K mg base k f H' (ERaised T Q) (fun _ H'' => Q (.str "none") H'')
theorem Ends.up {T : Tx K mg} {k : Nat} {H H' : Hp} {f : Addr} {wd : Str} (h : Ends T P w base k H f wd) (s : Same H H') : Ends T P w base k H' f wd :=
  ⟨by obtain ⟨nm, q, params, body, scope, cl, pm, ctv, c', e⟩ := h.1; exact ⟨nm, q, params, body, scope, cl, pm, ctv, c', s _ _ e⟩, fun H1 Q s1 => h.2 H1 Q (s.trans s1)⟩
def spErr (T : Tx K mg) (P : Program) (w : World) (base : Heap) (k : Nat) : Sp := fun vs H Q _ => ∃ (f : Addr) (wd : Str), vs = [.ref f] ∧ Ends T P w base k H f wd ∧ ∀ H', Same H H' → Q (.str wd) H'
theorem ok_err (T : Tx K mg) (Y : Kinds T) (k : Nat) : FnOk P w K mg base CX0 (k + 1) T.a_law_error T.d_law_error ["call"] (spErr T P w base k) := by
  have nd := sc__law_error.nd
  refine T.f_law_error.ok sc__law_error (fun vs H Q E h => ?_) (fun cdv A outer s H vs Q E hr h => ?_)
  · obtain ⟨f, wd, rfl, _⟩ := h
    rfl
  obtain ⟨f, wd, rfl, ⟨hl, ha⟩, q⟩ := h
  refine ⟨_, pss_cons (ps_try_as (i := 1) (c := .ref T.CPartError)
      (ts := fun a c d => match c, d with | .ref D, none => fun E σ H2 => ExcC K D ∧ (suite_ex (P := P) (w := w) (base := base) T T.a_law_error cdv A outer s H a D).choose E σ H2 | _, _ => fun _ _ _ => False)
      (tb := fun W D σ H => ∃ Ech : XK, (∀ c d σ' H', σ'.length = 3 → Ech c d H' → W c d σ' H') ∧ ∃ f, σ[0]? = some (some (.ref f)) ∧ (∃ (nm q : Str) (params : Arguments) (body : Expr) (scope : Scope) (cl : List (Str × Addr)) (pm ctv : Value) (c' : Addr), H f = some (ObjO f (PySem.W.kla_obj nm q params body scope cl pm c' ctv))) ∧ Act P w K mg base k f H Ech (fun _ H' => D.nx σ H'))
      rfl rfl nd rfl rfl ⟨by rfl, by decide, .inl T.gPartError⟩ takes00 (fun W pn xe tk _ => ?_) (fun a oe c d pn hz hf => ?_)) (pss_one (ps_ret pe_str)), ?_⟩
  · refine ⟨fun pins s' σ H' D I h' => ?_⟩
    obtain ⟨Ech, hW, h1⟩ := h'
    exact (pss_one (ps_expr (pe_act0 (X := ((cxOf CX0 P w K mg base N__law_error "_law_error" (defScope s__law_error) T.a_law_error cdv A outer s H E).nox.tr pn xe)) (k := k) (i := 0) (E := Ech) hr rfl (.inl rfl) (passes_call (takes_len tk) (fun c d σ' H' e l => hW c d σ' H' l e))))).run pins s' σ H' D I h1
  · cases c with
    | ref D =>
      cases d with
      | none =>
        show PSs _ (suiteOf (defBody s__law_error)) (fun E σ H2 => ExcC K D ∧ (suite_ex (P := P) (w := w) (base := base) T T.a_law_error cdv A outer s H a D).choose E σ H2)
        exact pss_guard fun xC => (suite_ex (P := P) (w := w) (base := base) T T.a_law_error cdv A outer s H a D).choose_spec.1 oe pn xC hz hf
      | some _ => exact pss_false
    | _ => exact pss_false
  · refine ⟨ERaised T Q, fun c d σ' H' l e => ?_, f, rfl, hl, ?_⟩
    · obtain ⟨rfl, D, w', rfl, hm, hq⟩ := e
      match σ', l with
      | [y0, y1, y2], _ =>
      obtain ⟨j, kd, hj, hw⟩ := hm.kind Y
      exact ⟨true, kd.p, fun _ a na => ⟨kd.x, (suite_ex (P := P) (w := w) (base := base) T T.a_law_error cdv A outer s H a D).choose_spec.2 j w' _ y0 y2 H' kd.r hj hw hq⟩, fun z => (nomatch z)⟩
    · exact ha H Q (Same.refl H) q
def spErrs (T : Tx K mg) (P : Program) (w : World) (base : Heap) (k : Nat) : Sp := fun vs H Q _ => ∃ (l : Addr) (fs : List Addr) (ws : List Str), vs = [.ref l] ∧ H l = some (.lst (fs.map V.ref)) ∧ fs.length = ws.length ∧ ws.length ≤ 100 ∧
  (∀ (j : Nat) f wd, fs[j]? = some f → ws[j]? = some wd → Ends T P w base k H f wd) ∧ ∀ p H', Same H H' → H' p = some (.lst (ws.map V.str)) → Q (.ref p) H'
theorem ok_errs (T : Tx K mg) (Y : Kinds T) (k : Nat) : FnOk P w K mg base CX0 (k + 2) T.a_law_errors T.d_law_errors ["calls"] (spErrs T P w base k) := by
  have nd := sc__law_errors.nd
  have G := ok_err (P := P) (w := w) (base := base) T Y k
  refine T.f_law_errors.ok sc__law_errors (fun vs H Q E h => ?_) (fun cdv A outer s H vs Q E hr h => ?_)
  · obtain ⟨l, fs, ws, rfl, _⟩ := h
    rfl
  obtain ⟨l, fs, ws, rfl, hl, len, few, he, q⟩ := h
  refine ⟨_, (pss_one (ps_ret (pe_lc (own := [("call", 1)]) (g := (gName 1)) (tt := tYes) (by rfl) nd (pi_list (pv 0)) (blkOk_by (own := [("call", 1)]) (N := N__law_errors) (sc := defScope s__law_errors) (by decide +kernel)) (fun _ _ _ _ _ => pg_name (i := 1) nd rfl (.inl rfl)) (fun _ _ _ _ _ => pts_nil) (fun _ _ _ _ _ => (pe_call G (hr.mono (by omega)) (by rfl) T.g_law_error T.f_law_error.kp T.n_law_error .nil pass0 (pa_cons (pv 1) pa_nil)))))), ?_⟩
  refine ⟨_, rfl, l, rfl, ⟨_, SqL.of hl⟩, fun D nD => ?_⟩
  refine lc_list (K := K) (a := l) (xs := fs.map V.ref) (fun i G => Same H G ∧ G D = some (.lst ((ws.take i).map V.str))) ⟨same_new' nD, upd_same⟩ (fun i G _ h => SqL.of (h.1 _ _ hl)) ?_ ?_
  · rintro i x G hi ⟨sG, eD⟩
    rw [List.getElem?_map] at hi
    obtain ⟨f, hf, rfl⟩ := Option.map_eq_some_iff.mp hi
    have lt : i < ws.length := by
      rw [← len]
      exact (List.getElem?_eq_some_iff.mp hf).1
    have gd := List.getElem?_eq_getElem lt
    refine ⟨rfl, (iteT (B := False) ?_ : if true = true then _ else False)⟩
    refine ⟨_, rfl, f, ws[i], rfl, (he i f _ hf gd).up sG, fun H3 s3 => ⟨_, s3 _ _ eD, ?_, fun o ob ho => ?_, ?_⟩⟩
    · rw [List.length_map, List.length_take]
      exact small1000 (by omega)
    · rw [upd_ne (ne_of_none ho nD)]
      exact s3 _ _ (sG _ _ ho)
    · rw [upd_same, List.take_add_one, gd, List.map_append]
      rfl
  · rintro G ⟨sG, eD⟩
    rw [List.length_map, len, List.take_length] at eD
    exact q D G sG eD
end
end K14
/-! The makers of lambdas. -/
namespace K14
open PySem PySem.Spec PyProof.Rows L2 Kx LamX
structure Ty {K : PySem.W.Frag} {mg : Str → Option Value} (T : Tx K mg) where
  kn : Kinds T
  cC : Addr
  PC : Addr
  cL : Addr
  PL : Addr
  codeC : T.d_law_case_right.code = .ref cC
  codeL : T.dlaw.code = .ref cL
  ne : PC ≠ PL
abbrev qC : Str := (("_law_case_right" : Str) ++ ".<locals>.") ++ "<lambda>"
abbrev qL : Str := (("law" : Str) ++ ".<locals>.") ++ "<lambda>"
section
variable {K : PySem.W.Frag} {mg : Str → Option Value} {T : Tx K mg}
def Ty.tb (Y : Ty T) : List (Addr × Str) := [(Y.PC, qC), (Y.PL, qL)]
theorem Ty.hC (Y : Ty T) : (Y.PC, qC) ∈ Y.tb ∧ ∀ p ∈ Y.tb, p.1 = Y.PC → p.2 = qC := by
  refine ⟨by simp [Ty.tb], fun p hp e => ?_⟩
  simp only [Ty.tb, List.mem_cons, List.not_mem_nil, or_false] at hp
  rcases hp with rfl | rfl
  · rfl
  · exact absurd e.symm Y.ne
theorem Ty.hL (Y : Ty T) : (Y.PL, qL) ∈ Y.tb ∧ ∀ p ∈ Y.tb, p.1 = Y.PL → p.2 = qL := by
  refine ⟨by simp [Ty.tb], fun p hp e => ?_⟩
  simp only [Ty.tb, List.mem_cons, List.not_mem_nil, or_false] at hp
  rcases hp with rfl | rfl
  · exact absurd e Y.ne
  · rfl
end
theorem same_add {C : Addr → Bool} {H G : Hp} (s : Same (delC C H) G) : Same H (addC C H G) := fun b o e => by
  by_cases hb : C b = true
  · rw [addC_in hb]
    exact e
  · rw [addC_out hb]
    exact s b o (by rw [delC_out hb]; exact e)
section
variable {X : Cx} {T : Tx X.K X.mg} {σ : L2.St} {HZ : Hp} {scope : Scope} {params : Arguments} {body : Expr} {f : Addr} {k : Nat} {t : XK → TE}
/-- a laid lambda raises C -/
theorem ends_raise (D : CellsAt X σ HZ) (L : LamS X.env.scope scope) (lam : LamO X params body scope HZ f)
    (hbind : ∀ (q : Str) (cl : List (Str × Addr)) (pm cv ctv : Value), bindArgs (PySem.W.kla_fn "<lambda>" q params body scope cl pm cv ctv) ⟨[], []⟩ = pure [])
    (hbody : ∀ (A : Around) (outer : List Env) (s : Shared) (H : Hp) (E : XK) (f c' : Addr), Room k (A.deeper (lamEnv X scope s.heap.objs.size f c')) → PE (lamCx X A outer s H E scope f c') body (t E))
    {C : Addr} {wd : Str} (wc : Word T C wd) (h : ∀ (G : Hp) (E : XK) (Q : VK), Same (delC (CellsOf X) HZ) G → (∀ G', Same G G' → E (.ref C) none G') → t E σ G Q) : Ends T X.prog X.w X.base (k + 1) HZ f wd := by
  obtain ⟨c', pm, ctv, hf, hc⟩ := lam
  refine ⟨⟨_, _, _, _, _, _, _, _, _, hf⟩, fun H' Q s q => ?_⟩
  refine act_lam (D.up s) L (s _ _ hf) (s _ _ hc) (hbind _ _ _ _ _) hbody (h _ _ _ (fun b o e => ?_) fun G' s' => ?_)
  · by_cases hb : CellsOf X b = true
    · rw [delC_in hb] at e
      cases e
    · rw [delC_out hb] at e ⊢
      exact s _ _ e
  · exact ⟨rfl, C, wd, rfl, wc, fun H2 s2 => q H2 ((same_add s').trans s2)⟩
/-- a laid lambda ends well -/
theorem ends_fine (D : CellsAt X σ HZ) (L : LamS X.env.scope scope) (lam : LamO X params body scope HZ f)
    (hbind : ∀ (q : Str) (cl : List (Str × Addr)) (pm cv ctv : Value), bindArgs (PySem.W.kla_fn "<lambda>" q params body scope cl pm cv ctv) ⟨[], []⟩ = pure [])
    (hbody : ∀ (A : Around) (outer : List Env) (s : Shared) (H : Hp) (E : XK) (f c' : Addr), Room k (A.deeper (lamEnv X scope s.heap.objs.size f c')) → PE (lamCx X A outer s H E scope f c') body (t E))
    (h : ∀ (G : Hp) (E : XK) (Q : VK), Same (delC (CellsOf X) HZ) G → (∀ x G', Same G G' → Q x G') → t E σ G Q) : Ends T X.prog X.w X.base (k + 1) HZ f "none" := by
  obtain ⟨c', pm, ctv, hf, hc⟩ := lam
  refine ⟨⟨_, _, _, _, _, _, _, _, _, hf⟩, fun H' Q s q => ?_⟩
  refine act_lam (D.up s) L (s _ _ hf) (s _ _ hc) (hbind _ _ _ _ _) hbody (h _ _ _ (fun b o e => ?_) fun x G' s' => ?_)
  · by_cases hb : CellsOf X b = true
    · rw [delC_in hb] at e
      cases e
    · rw [delC_out hb] at e ⊢
      exact s _ _ e
  · exact q _ (same_add s')
end
end K14
/-! Lambdas laid in a list. -/
namespace Kx
open PySem PySem.Spec PyProof.Rows L2 LamX
section
variable {K : PySem.W.Frag} {H H' H1 : Hp}
mutual
theorem Dx.ext (e : ExtN H H') : ∀ {d : PyData} {v : V}, Dx K H v d → Dx K H' v d
  | .none, _, h => by cases h; exact .non
  | .bool b, _, h => by cases h; exact .bl b
  | .int i, _, h => by cases h; exact .int i
  | .str x, _, h => by cases h; exact .str x
  | .list ds, _, h => by cases h with | lst a b => exact .lst (e _ _ a (fun ps z => nomatch z)) (DxAll.ext e b)
  | .tuple ds, _, h => by cases h with | tup a b => exact .tup (e _ _ a (fun ps z => nomatch z)) (DxAll.ext e b)
  | .dict ds, _, h => by cases h with | dic a b => exact .dic (e _ _ a (fun ps z => nomatch z)) b
theorem DxAll.ext (e : ExtN H H') : ∀ {ds : List PyData} {vs : List V}, DxAll K H vs ds → DxAll K H' vs ds
  | [], _, h => by cases h; exact .nil
  | d :: ds, _, h => by cases h with | cons a b => exact .cons (Dx.ext e a) (DxAll.ext e b)
end
theorem offs_ext {S : List Addr} (e : ExtN H H') : ExtN (OffS S H) (OffS S H') := fun b o h n => by
  obtain ⟨nb, h⟩ := OffS.of h
  exact OffS.out nb (e b o h n)
theorem ext_sm (e : Same H H') : ExtN H H' := ExtN.of e
theorem Lc.ext {S : List Addr} {ρ : List (Nat × PyData)} {σ : L2.St} (h : Lc K S ρ σ H) (e : ExtN H H') : Lc K S ρ σ H' := fun p hp => by
  obtain ⟨x, ex, dx⟩ := h p hp
  exact ⟨x, ex, dx.ext (offs_ext e)⟩
theorem tabs_put {T : List (Addr × Str)} {l : Addr} {xs ys : List V} (t : Tabs T H) (h : H l = some (.lst xs)) : Tabs T (upd H l (.lst ys)) := fun p hp => by
  obtain ⟨ps, h1, h2, h3⟩ := t p hp
  refine ⟨ps, by rw [upd_ne (ne_of h1 h (fun e => nomatch e))]; exact h1, h2, fun pos cv hc => ?_⟩
  obtain ⟨c, e1, e2⟩ := h3 pos cv hc
  exact ⟨c, e1, by rw [upd_ne (ne_of e2 h (fun e => by unfold CodeO at e; cases e))]; exact e2⟩
end
abbrev Lamb := Arguments × Expr × Scope
section
variable {X : Cx} {T : List (Addr × Str)} {H0 H : Hp} {l : Addr} {bs : List Lamb} {σ : L2.St} {rest : TS} {D : Ends}
theorem objO_neL {a : Addr} {o : Obj} {xs : List V} : ObjO a o ≠ .lst xs := fun z => by
  unfold ObjO at z
  cases z
theorem codeO_neL {a : Addr} {q : Str} {xs : List V} : CodeO a q ≠ .lst xs := fun z => by
  unfold CodeO at z
  cases z
theorem LamO.put {params : Arguments} {body : Expr} {scope : Scope} {f : Addr} {xs ys : List V} (h : LamO X params body scope H f) (e : H l = some (.lst xs)) : LamO X params body scope (upd H l (.lst ys)) f := by
  obtain ⟨c', pm, ctv, h1, h2⟩ := h
  exact ⟨c', pm, ctv, by rw [upd_ne (ne_of h1 e objO_neL)]; exact h1, by rw [upd_ne (ne_of h2 e codeO_neL)]; exact h2⟩
/-- a list of lambdas laid so far -/
structure Lay (X : Cx) (T : List (Addr × Str)) (H0 : Hp) (l : Addr) (bs : List Lamb) (H : Hp) : Prop where
  new : ∀ o, H0 l = some o → ∃ ps, o = .tbl ps
  ext : ExtN H0 H
  tabs : Tabs T H
  few : bs.length ≤ 100
  at_ : ∃ fs : List Addr, H l = some (.lst (fs.map V.ref)) ∧ fs.length = bs.length ∧ ∀ (j : Nat) f b, fs[j]? = some f → bs[j]? = some b → LamO X b.1 b.2.1 b.2.2 H f
theorem asg_lay {params : Arguments} {body : Expr} {scope : Scope} {j : Nat} (t0 : Tabs T H0) (q : ∀ l H', Lay X T H0 l [(params, body, scope)] H' → rest D (σ.set j (some (.ref l))) H') :
    tSeq (tAsg (tLst (tCons (tMkLam X T params body scope) tNil)) (gName j)) rest D σ H0 :=
  ⟨t0, fun f H1 e t nf lam => ⟨by show 1 ≤ sizeLine; decide, fun l nl => q l _ ⟨fun o z => Classical.byContradiction fun tb => (by
    rw [e _ _ z (fun ps x => tb ⟨ps, x⟩)] at nl
    cases nl), e.trans (ext_sm (same_put nl)), t.ext (same_put nl), by show 1 ≤ 100; decide, [f], upd_same, rfl, fun j f' b hf hb => by
      match j, hf, hb with
      | 0, hf, hb =>
        cases hf
        cases hb
        exact lam.ext (ext_sm (same_put nl))⟩⟩⟩
theorem Lay.ext_put {xs ys : List V} {H' : Hp} (h : Lay X T H0 l bs H) (e : ExtN H0 H') : ExtN H0 (upd H' l (.lst ys)) := fun b o eb n => by
  have ne : b ≠ l := fun z => by
    subst z
    obtain ⟨ps, hp⟩ := h.new o eb
    exact n ps hp
  rw [upd_ne ne]
  exact e b o eb n
/-- calls.append(lambda: ..) -/
theorem app_lay {K : PySem.W.Frag} {params : Arguments} {body : Expr} {scope : Scope} {i : Nat} (hi : σ[i]? = some (some (.ref l))) (h : Lay X T H0 l bs H) (few : bs.length < 100)
    (q : ∀ H', Lay X T H0 l (bs ++ [(params, body, scope)]) H' → rest D σ H') : tSeq (tDrop (tBM K "list" rAppend (tVar i) (tCons (tMkLam X T params body scope) tNil))) rest D σ H := by
  obtain ⟨fs, hl, len, lam⟩ := h.at_
  refine ⟨_, hi, .inl ⟨rfl, _, SqL.of hl⟩, h.tabs, fun f H' e t nf la => ?_⟩
  have hl' := e _ _ hl (fun ps z => nomatch z)
  have lf : fs.length ≤ 100 := by rw [len]; exact h.few
  refine ⟨l, _, _, rfl, rfl, hl', by rw [List.length_map]; exact small1000 (by omega), q _ ⟨h.new, h.ext_put (xs := []) (h.ext.trans e), tabs_put t hl', by rw [List.length_append]; exact few, fs ++ [f], by rw [upd_same, List.map_append]; rfl, by rw [List.length_append, List.length_append, len]; rfl, fun j f' b hf hb => ?_⟩⟩
  by_cases hj : j < fs.length
  · rw [List.getElem?_append_left hj] at hf
    rw [List.getElem?_append_left (by rw [← len]; exact hj)] at hb
    exact ((lam j f' b hf hb).ext e).put hl'
  · have hj2 : fs.length ≤ j := Nat.le_of_not_lt hj
    rw [List.getElem?_append_right hj2] at hf
    rw [List.getElem?_append_right (by rw [← len]; exact hj2), ← len] at hb
    match j - fs.length, hf, hb with
    | 0, hf, hb =>
      cases hf
      cases hb
      exact la.put hl'
/-- what goes in with the cells known comes out without -/
theorem same_del {C : Addr → Bool} {H1 HZ H' : Hp} (g : ∀ b, H1 b = delC C HZ b) (s : Same HZ H') : Same H1 (delC C H') := fun b o e => by
  rw [g b] at e
  by_cases hb : C b = true
  · rw [delC_in hb] at e
    cases e
  · rw [delC_out hb] at e ⊢
    exact s _ _ e
theorem at_del {C : Addr → Bool} {HZ H' : Hp} {p : Addr} {xs : List V} (O : Objs C HZ) (s : Same HZ H') (e : H' p = some (.lst xs)) : delC C H' p = some (.lst xs) := by
  rw [delC_out ((O.up s).ne e fun o z => objO_neL z.symm)]
  exact e
end
end Kx
/-! == and != of data, deep ones. -/
namespace Kx
open PySem PySem.Spec PyProof.Rows L2
section
variable {X : Cx}
/-- == and != of data, deep ones -/
def rEqF (K : PySem.W.Frag) : R2 := fun x y H Q => ∃ d e, Dp K H x d ∧ Dp K H y e ∧ d.canLay0 = true ∧ e.canLay0 = true ∧ d.depth ≤ 190 ∧ Q (.bl (PyData.eqv d e)) H
def rNeF (K : PySem.W.Frag) : R2 := fun x y H Q => ∃ d e, Dp K H x d ∧ Dp K H y e ∧ d.canLay0 = true ∧ e.canLay0 = true ∧ d.depth ≤ 190 ∧ Q (.bl (!PyData.eqv d e)) H
theorem op_eqF (hu : X.A.units + 200 < cLine) : OpR X (compareOp .Eq) (rEqF X.K) := by
  intro pins s σ H x y v u Q I rx ry h
  obtain ⟨d, e, hd, he, sd, se, z, q⟩ := h
  obtain ⟨as, r1⟩ := Dp.reads I d x v hd rx
  obtain ⟨bs, r2⟩ := Dp.reads I e y u he ry
  exact SeqAt.compareEq_reads r1 r2 sd se (by have := Nat.min_le_left d.depth e.depth; omega) ⟨.bl _, H, I, rfl, q⟩
theorem op_neF (hu : X.A.units + 200 < cLine) : OpR X (compareOp .NotEq) (rNeF X.K) := by
  intro pins s σ H x y v u Q I rx ry h
  obtain ⟨d, e, hd, he, sd, se, z, q⟩ := h
  obtain ⟨as, r1⟩ := Dp.reads I d x v hd rx
  obtain ⟨bs, r2⟩ := Dp.reads I e y u he ry
  exact SeqAt.compareNe_reads r1 r2 sd se (by have := Nat.min_le_left d.depth e.depth; omega) ⟨.bl _, H, I, rfl, q⟩
end
theorem room200 {k : Nat} {A : Around} (r : Room k A) : A.units + 200 < cLine := by
  have := r.un
  omega
end Kx
/-! Lists of words. -/
namespace Kx
open PySem PySem.Spec PyProof.Rows L2
section
variable {K : PySem.W.Frag} {H : Hp} {Q : VK}
/-- te makes a list of these words -/
def MkW (K : PySem.W.Frag) (te : TE) (ws : List Str) : Prop := ∀ (σ : L2.St) (H : Hp) (Q : VK), (∀ p H', Same H H' → H' p = some (.lst (ws.map V.str)) → Q (.ref p) H') → te σ H Q
def MkWs (ta : TA) (ws : List Str) : Prop := ∀ (σ : L2.St) (H : Hp) (Q : List V → Hp → Prop), Q (ws.map V.str) H → ta σ H Q
theorem rep_flat (w : Str) : ∀ n : Nat, (List.replicate n [V.str w]).flatten = (List.replicate n w).map V.str
  | 0 => rfl
  | n + 1 => by rw [List.replicate_succ, List.replicate_succ, List.flatten_cons, List.map_cons, rep_flat w n]; rfl
theorem mkw_rep (w : Str) (n : Nat) (few : n ≤ 100) : MkW K (tOp rRep (tLst (tCons (tC (.str w)) tNil)) (tC (.int (n : Int)))) (List.replicate n w) := fun σ H Q q => by
  refine ⟨by show 1 ≤ sizeLine; decide, fun p np => ⟨p, n, _, rfl, rfl, upd_same, by omega, by omega, ?_, fun p2 np2 => ?_⟩⟩
  · rw [Int.toNat_natCast]
    exact Nat.le_of_lt (small1000 (by show 1 * n ≤ 1000; omega))
  · refine q p2 _ ((same_put np).trans (same_put np2)) ?_
    rw [upd_same, Int.toNat_natCast]
    rw [rep_flat]
theorem mkw_cat {t1 t2 : TE} {ws us : List Str} (h1 : MkW K t1 ws) (h2 : MkW K t2 us) (few : ws.length + us.length ≤ 100) : MkW K (tOp rCat t1 t2) (ws ++ us) := fun σ H Q q =>
  h1 σ H _ fun p H1 s1 e1 => h2 σ H1 _ fun p2 H2 s2 e2 => ⟨p, p2, _, _, rfl, rfl, s2 _ _ e1, e2, by rw [List.length_map, List.length_map]; exact Nat.le_of_lt (small1000 (by omega)), fun p3 np => q p3 _ (s1.trans (s2.trans (same_put np))) (by rw [upd_same, List.map_append])⟩
theorem mkws_nil : MkWs tNil [] := fun σ H Q q => q
theorem mkws_cons {w : Str} {ta : TA} {ws : List Str} (h : MkWs ta ws) : MkWs (tCons (tC (.str w)) ta) (w :: ws) := fun σ H Q q => h σ H _ q
theorem mkw_lst {ta : TA} {ws : List Str} (h : MkWs ta ws) (few : ws.length ≤ 100) : MkW K (tLst ta) ws := fun σ H Q q => h σ H _ ⟨by rw [List.length_map]; exact Nat.le_of_lt (small1000 (by omega)), fun p np => q p _ (same_put np) upd_same⟩
theorem dpAll_strs : ∀ ws : List Str, DpAll K H (ws.map V.str) (ws.map PyData.str)
  | [] => .nil
  | w :: ws => .cons (.str w) (dpAll_strs ws)
theorem dp_strs {p : Addr} {ws : List Str} (h : H p = some (.lst (ws.map V.str))) : Dp K H (.ref p) (.list (ws.map PyData.str)) := .lst (SqL.of h) (dpAll_strs ws)
theorem lay_strs : ∀ ws : List Str, ws.all PyData.strOk = true → PyData.canLayAll0 (ws.map PyData.str) = true ∧ PyData.depthAll (ws.map PyData.str) = 0 ∧ PyData.eqvAll (ws.map PyData.str) (ws.map PyData.str) = true
  | [], _ => ⟨rfl, rfl, by simp [PyData.eqvAll]⟩
  | w :: ws, h => by
    rw [List.all_cons, Bool.and_eq_true] at h
    obtain ⟨a, b, c⟩ := lay_strs ws h.2
    refine ⟨by simp [PyData.canLayAll0, PyData.canLay0, a, h.1], by simp [PyData.depthAll, PyData.depth, b], by simp [PyData.eqvAll, PyData.eqv, c]⟩
/-- == of these words with those -/
theorem eq_words {p : Addr} {ws : List Str} {te : TE} {σ : L2.St} (e0 : H p = some (.lst (ws.map V.str))) (m : MkW K te ws) (ok : ws.all PyData.strOk = true) (q : ∀ H', Same H H' → Q (.bl true) H') : te σ H fun y H2 => rEqF K (.ref p) y H2 Q :=
  m σ H _ fun p2 H1 s e => by
    obtain ⟨a, b, c⟩ := lay_strs ws ok
    refine ⟨_, _, dp_strs (s _ _ e0), dp_strs e, by simpa [PyData.canLay0] using a, by simpa [PyData.canLay0] using a, by simp [PyData.depth, b], ?_⟩
    rw [show PyData.eqv (.list (ws.map PyData.str)) (.list (ws.map PyData.str)) = true by simpa [PyData.eqv] using c]
    exact q H1 s
theorem ne_words {p : Addr} {ws : List Str} {te : TE} {σ : L2.St} (e0 : H p = some (.lst (ws.map V.str))) (m : MkW K te ws) (ok : ws.all PyData.strOk = true) (q : ∀ H', Same H H' → Q (.bl false) H') : te σ H fun y H2 => rNeF K (.ref p) y H2 Q :=
  m σ H _ fun p2 H1 s e => by
    obtain ⟨a, b, c⟩ := lay_strs ws ok
    refine ⟨_, _, dp_strs (s _ _ e0), dp_strs e, by simpa [PyData.canLay0] using a, by simpa [PyData.canLay0] using a, by simp [PyData.depth, b], ?_⟩
    rw [show PyData.eqv (.list (ws.map PyData.str)) (.list (ws.map PyData.str)) = true by simpa [PyData.eqv] using c]
    exact q H1 s
end
end Kx
/-! What laid lambdas tell. -/
namespace K14
open PySem PySem.Spec PyProof.Rows L2 Kx LamX
section
variable {X : Cx} {T : Tx X.K X.mg} {σ : L2.St} {H0 H : Hp} {k : Nat}
def Tells (X : Cx) (T : Tx X.K X.mg) (k : Nat) (σ : L2.St) (H0 : Hp) (b : Lamb) (wd : Str) : Prop := ∀ HZ f, ExtN H0 (delC (CellsOf X) HZ) → CellsAt X σ HZ → LamO X b.1 b.2.1 b.2.2 HZ f → Ends T X.prog X.w X.base k HZ f wd
inductive TellsAll (X : Cx) (T : Tx X.K X.mg) (k : Nat) (σ : L2.St) (H0 : Hp) : List Lamb → List Str → Prop
  | nil : TellsAll X T k σ H0 [] []
  | cons {b : Lamb} {wd : Str} {bs : List Lamb} {ws : List Str} : Tells X T k σ H0 b wd → TellsAll X T k σ H0 bs ws → TellsAll X T k σ H0 (b :: bs) (wd :: ws)
theorem TellsAll.length : ∀ {bs : List Lamb} {ws : List Str}, TellsAll X T k σ H0 bs ws → bs.length = ws.length
  | _, _, .nil => rfl
  | _, _, .cons _ t => by rw [List.length_cons, List.length_cons, t.length]
theorem TellsAll.get : ∀ {bs : List Lamb} {ws : List Str}, TellsAll X T k σ H0 bs ws → ∀ {j : Nat} {b wd}, bs[j]? = some b → ws[j]? = some wd → Tells X T k σ H0 b wd
  | _, _, .cons a t, 0, _, _, h1, h2 => by cases h1; cases h2; exact a
  | _, _, .cons a t, j + 1, _, _, h1, h2 => t.get (j := j) h1 h2
theorem tells_raise {scope : Scope} {params : Arguments} {body : Expr} {t : XK → TE} (L : LamS X.env.scope scope)
    (hbind : ∀ (q : Str) (cl : List (Str × Addr)) (pm cv ctv : Value), bindArgs (PySem.W.kla_fn "<lambda>" q params body scope cl pm cv ctv) ⟨[], []⟩ = pure [])
    (hbody : ∀ (A : Around) (outer : List Env) (s : Shared) (H : Hp) (E : XK) (f c' : Addr), Room k (A.deeper (lamEnv X scope s.heap.objs.size f c')) → PE (lamCx X A outer s H E scope f c') body (t E))
    {C : Addr} {wd : Str} (wc : Word T C wd) (h : ∀ (G : Hp) (E : XK) (Q : VK), ExtN H0 G → (∀ G', Same G G' → E (.ref C) none G') → t E σ G Q) : Tells X T (k + 1) σ H0 (params, body, scope) wd := fun HZ f e D lam =>
  ends_raise D L lam hbind hbody wc fun G E Q s q => h G E Q (e.trans (ext_sm s)) q
theorem tells_fine {scope : Scope} {params : Arguments} {body : Expr} {t : XK → TE} (L : LamS X.env.scope scope)
    (hbind : ∀ (q : Str) (cl : List (Str × Addr)) (pm cv ctv : Value), bindArgs (PySem.W.kla_fn "<lambda>" q params body scope cl pm cv ctv) ⟨[], []⟩ = pure [])
    (hbody : ∀ (A : Around) (outer : List Env) (s : Shared) (H : Hp) (E : XK) (f c' : Addr), Room k (A.deeper (lamEnv X scope s.heap.objs.size f c')) → PE (lamCx X A outer s H E scope f c') body (t E))
    (h : ∀ (G : Hp) (E : XK) (Q : VK), ExtN H0 G → (∀ x G', Same G G' → Q x G') → t E σ G Q) : Tells X T (k + 1) σ H0 (params, body, scope) "none" := fun HZ f e D lam =>
  ends_fine D L lam hbind hbody fun G E Q s q => h G E Q (e.trans (ext_sm s)) q
/-- _law_errors(calls) -/
theorem errs_lay {Q : VK} {tabs : List (Addr × Str)} {i : Nat} {l : Addr} {bs : List Lamb} {ws : List Str} (hi : σ[i]? = some (some (.ref l))) (L : Lay X tabs H0 l bs H) (tt : TellsAll X T k σ H0 bs ws)
    (q : ∀ p H', Same H H' → H' p = some (.lst (ws.map V.str)) → Q (.ref p) H') : tCallM X (spErrs T X.prog X.w X.base k) (tCons (tVar i) tNil) σ H Q := by
  obtain ⟨fs, hl, len, lam⟩ := L.at_
  refine ⟨_, hi, fun _ HZ s g D => ⟨l, fs, ws, rfl, s _ _ hl, by rw [len, tt.length], by rw [← tt.length]; exact L.few, fun j f wd hf hw => ?_, fun p H' s' e => ⟨s', q p _ (same_del g s') (at_del D.objs s' e)⟩⟩⟩
  have lt : j < bs.length := by
    rw [← len]
    exact (List.getElem?_eq_some_iff.mp hf).1
  refine tt.get (List.getElem?_eq_getElem lt) hw HZ f (fun b o e n => ?_) D ((lam j f _ hf (List.getElem?_eq_getElem lt)).ext (ext_sm s))
  rw [← g b]
  exact L.ext b o e n
/-- _law_error(lambda: ..) -/
theorem err_lay {Q : VK} {tabs : List (Addr × Str)} {params : Arguments} {body : Expr} {scope : Scope} {wd : Str} (t0 : Tabs tabs H) (tl : Tells X T k σ H (params, body, scope) wd)
    (q : ∀ H', ExtN H H' → Tabs tabs H' → Q (.str wd) H') : tCallM X (spErr T X.prog X.w X.base k) (tCons (tMkLam X tabs params body scope) tNil) σ H Q := by
  refine ⟨t0, fun f H1 e t nf lam => fun _ HZ s g D => ⟨f, wd, rfl, tl HZ f (fun b o eb n => ?_) D (lam.ext (ext_sm s)), fun H' s' => ⟨s', q _ (e.trans (ext_sm (same_del g s'))) (t.ext (same_del g s'))⟩⟩⟩
  rw [← g b]
  exact e b o eb n
end
end K14
/-! How the functions of facts refuse what a lambda hands them. -/
namespace Kx
open PySem PySem.Spec PyProof.Rows L2 LamX
/-- a def by its body, its code object told -/
theorem okC {P : Program} {w : World} {K : PySem.W.Frag} {mg : Str → Option Value} {base : Heap} {x qual : Str} {st : Stmt} {f : Addr} {fd : FuncData} {N ps : List Str} {k : Nat} {sp : Sp} (F : Fun K x qual st f fd) (S : FnScope N ps (defScope st)) (len : ∀ vs H Q E, sp vs H Q E → vs.length = ps.length)
    (hbody : ∀ (cdv : Value) (A : Around) (outer : List Env) (s : Shared) (H : Hp) (vs : List V) (Q : VK) (E : XK), fd.code = cdv → Room k (A.deeper (envOfC qual (defScope st) s.heap.objs.size f cdv)) → sp vs H Q E →
      ∃ t, PSs (cxOf CX0 P w K mg base N qual (defScope st) f cdv A outer s H E).nox (defBody st) t ∧ t { nx := fun _ H' => Q .non H', rt := Q } (start N vs) H) : FnOk P w K mg base CX0 (k + 1) f fd ps sp := by
  obtain ⟨oc, od, kV, doc, pm, an, cdv, ct, osl, rfl, lk, hcd⟩ := F.ex
  refine fn_of lk hcd S len fun A outer s H vs Q E hr hsp => ?_
  obtain ⟨t, h, q⟩ := hbody cdv A outer s H vs Q E rfl hr hsp
  exact ⟨t, h.nox, q⟩
/-- locals that hold data, where tables may grow -/
structure Ctx (K : PySem.W.Frag) (S : List Addr) (ρ : List (Nat × PyData)) (σ : L2.St) (H : Hp) : Prop where
  lc : Lc K S ρ σ H
  kept : ∀ b, b ∈ S → ∃ o, H b = some o ∧ ∀ ps, o ≠ .tbl ps
theorem Ctx.old {K : PySem.W.Frag} {S : List Addr} {ρ : List (Nat × PyData)} {σ : L2.St} {H : Hp} (c : Ctx K S ρ σ H) : Olds S H := fun b hb z => by
  obtain ⟨o, e, _⟩ := c.kept b hb
  rw [e] at z
  cases z
theorem Ctx.ext {K : PySem.W.Frag} {S : List Addr} {ρ : List (Nat × PyData)} {σ : L2.St} {H H' : Hp} (c : Ctx K S ρ σ H) (e : ExtN H H') : Ctx K S ρ σ H' := ⟨c.lc.ext e, fun b hb => by
  obtain ⟨o, h, n⟩ := c.kept b hb
  exact ⟨o, e _ _ h n, n⟩⟩
theorem mkv {K : PySem.W.Frag} {S : List Addr} {ρ : List (Nat × PyData)} {σ : L2.St} {H : Hp} {Q : List V → Hp → Prop} {ta : TA} {ds : List PyData} (c : Ctx K S ρ σ H) (m : MakesVs K S ρ ta ds) (q : ∀ xs H', Same H H' → DxAll K H' xs ds → Q xs H') : ta σ H Q :=
  m σ H Q c.old c.lc fun xs H' s d => q xs H' s (d.up OffS.all)
theorem dx1 {K : PySem.W.Frag} {H : Hp} {xs : List V} {d : PyData} (h : DxAll K H xs [d]) : ∃ x, xs = [x] ∧ Dx K H x d := by
  cases h with | cons a b => cases b; exact ⟨_, rfl, a⟩
theorem dx2 {K : PySem.W.Frag} {H : Hp} {xs : List V} {d e : PyData} (h : DxAll K H xs [d, e]) : ∃ x y, xs = [x, y] ∧ Dx K H x d ∧ Dx K H y e := by
  cases h with | cons a b =>
  obtain ⟨y, rfl, c⟩ := dx1 b
  exact ⟨_, y, rfl, a, c⟩
theorem dx3 {K : PySem.W.Frag} {H : Hp} {xs : List V} {d e f : PyData} (h : DxAll K H xs [d, e, f]) : ∃ x y z, xs = [x, y, z] ∧ Dx K H x d ∧ Dx K H y e ∧ Dx K H z f := by
  cases h with | cons a b =>
  obtain ⟨y, z, rfl, c, c2⟩ := dx2 b
  exact ⟨_, y, z, rfl, a, c, c2⟩
end Kx
namespace K14
open PySem PySem.Spec PyProof.Rows L2 Kx LamX
structure Sm (d : PyData) : Prop where
  s : shortD d = true
  z : szD d ≤ 1000
  w : fewD d = true
theorem NoT.sm {d : PyData} (h : NoT d) : Sm d := ⟨h.s, h.z, h.w⟩
theorem NoF.sm {d : PyData} (h : NoF d) : Sm d := ⟨h.s, h.z, h.w⟩
theorem sm_of {d : PyData} (h : (shortD d && decide (szD d ≤ 1000) && fewD d) = true) : Sm d := by
  simp only [Bool.and_eq_true, decide_eq_true_eq] at h
  exact ⟨h.1.1, h.1.2, h.2⟩
theorem Sm.dz {K : PySem.W.Frag} {H : Hp} {x : V} {d : PyData} (h : Sm d) (dx : Dx K H x d) : Dz K H x d := ⟨dx, h.s, Nat.le_trans h.z (by decide)⟩
theorem Sm.fz {K : PySem.W.Frag} {H : Hp} {x : V} {d : PyData} (h : Sm d) (dx : Dx K H x d) : Fz K H x d := ⟨dx, h.s, Nat.le_trans h.z (by decide), few_of h.w⟩
section
variable {P : Program} {w : World} {K : PySem.W.Frag} {S : List Addr} {ρ : List (Nat × PyData)} {σ : L2.St} {G : Hp} {Q : VK} {E : XK} {ta : TA} {d e eo en : PyData} {CT CO CF CN : Addr}
theorem mp_T (c : Ctx K S ρ σ G) (m : MakesVs K S ρ ta [d, e]) (sd : Sm d) (se : Sm e) (bad : (termD d && termD e) = false) (q : ∀ G', Same G G' → E (.ref CT) none G') : tCall (spMp K CT CO CF) [] E ta σ G Q :=
  mkv c m fun xs G1 s1 dd => by
    obtain ⟨x, y, rfl, dx, dy⟩ := dx2 dd
    exact ⟨x, y, d, e, rfl, sd.dz dx, se.dz dy, fun t1 t2 => (by rw [t1, t2] at bad; cases bad), .inl ⟨bad, fun G' s => q G' (s1.trans s)⟩⟩
theorem mp_O (c : Ctx K S ρ σ G) (m : MakesVs K S ρ ta [d, e]) (sd : Sm d) (se : Sm e) (t1 : termD d = true) (t2 : termD e = true) (te : tx d = tx e) (q : ∀ G', Same G G' → E (.ref CO) none G') : tCall (spMp K CT CO CF) [] E ta σ G Q :=
  mkv c m fun xs G1 s1 dd => by
    obtain ⟨x, y, rfl, dx, dy⟩ := dx2 dd
    have z1 := sd.z
    have z2 := se.z
    exact ⟨x, y, d, e, rfl, sd.dz dx, se.dz dy, fun _ _ => ⟨wr_of (termD_formed t1) (by omega), wr_of (termD_formed t2) (by omega), by omega⟩, .inr (.inl ⟨by rw [t1, t2]; rfl, te, fun G' s => q G' (s1.trans s)⟩)⟩
theorem mp_F (c : Ctx K S ρ σ G) (m : MakesVs K S ρ ta [d, e]) (sd : Sm d) (se : Sm e) (t1 : termD d = true) (t2 : termD e = true) (te : ¬ tx d = tx e) (j : jointD [d, e] = false) (q : ∀ G', Same G G' → E (.ref CF) none G') : tCall (spMp K CT CO CF) [] E ta σ G Q :=
  mkv c m fun xs G1 s1 dd => by
    obtain ⟨x, y, rfl, dx, dy⟩ := dx2 dd
    have z1 := sd.z
    have z2 := se.z
    exact ⟨x, y, d, e, rfl, sd.dz dx, se.dz dy, fun _ _ => ⟨wr_of (termD_formed t1) (by omega), wr_of (termD_formed t2) (by omega), by omega⟩, .inr (.inr ⟨by rw [t1, t2]; rfl, te, j, fun G' s => q G' (s1.trans s)⟩)⟩
theorem mf_F {ds : List PyData} (c : Ctx K S ρ σ G) (m : MakesVs K S ρ ta (e :: ds)) (sh : shortAll (ds ++ endOf e) = true) (sz : szAll (ds ++ endOf e) ≤ 10000) (few : ds.length ≤ 100) (bad : couplesD (ds ++ endOf e) = false ∨ (e ≠ .none ∧ eqC e)) (q : ∀ G', Same G G' → E (.ref CF) none G') : tCall (spMf K CF) [] E ta σ G Q :=
  mkv c m fun xs G1 s1 dd => by
    cases dd with
    | @cons x ws _ _ dx dw =>
    have lw := dw.length
    refine ⟨[x], ws ++ [], rfl, rfl, by rw [List.append_nil, lw]; exact Nat.le_of_lt (small1000 (by omega)), fun p np => ?_⟩
    rw [List.append_nil]
    have s2 := same_put (o := .tup ws) np
    exact ⟨x, e, p, ws, ds, rfl, upd_same, dx.up s2, dw.up s2, sh, sz, few, bad, fun G' s => q G' (s1.trans (s2.trans s))⟩
theorem bad_F (c : Ctx K S ρ σ G) (m : MakesVs K S ρ ta [d]) (sd : Sm d) (bad : factD d = false) (q : ∀ G', Same G G' → E (.ref CF) none G') : tCall (spBadF K CF) [] E ta σ G Q :=
  mkv c m fun xs G1 s1 dd => by
    obtain ⟨x, rfl, dx⟩ := dx1 dd
    exact ⟨x, d, rfl, sd.fz dx, bad, fun G' s => q G' (s1.trans s)⟩
theorem cut_F (c : Ctx K S ρ σ G) (m : MakesVs K S ρ ta [d, e]) (sd : Sm d) (se : Sm e) (bad : (factD d && factD e) = false ∨ jointD (sidesD (prsD d ++ prsD e)) = false) (q : ∀ G', Same G G' → E (.ref CF) none G') : tCall (spCut K CF) [] E ta σ G Q :=
  mkv c m fun xs G1 s1 dd => by
    obtain ⟨x, y, rfl, dx, dy⟩ := dx2 dd
    exact ⟨x, y, d, e, rfl, sd.fz dx, se.fz dy, bad, fun G' s => q G' (s1.trans s)⟩
theorem ch_F (c : Ctx K S ρ σ G) (m : MakesVs K S ρ ta [d, eo, en]) (sd : Sm d) (so : Sm eo) (sn : Sm en) (bad : factD d = false) (q : ∀ G', Same G G' → E (.ref CF) none G') : tCall (spCh K CF CT) [] E ta σ G Q :=
  mkv c m fun xs G1 s1 dd => by
    obtain ⟨x, y, z, rfl, dx, dy, dz⟩ := dx3 dd
    exact ⟨x, y, z, d, eo, en, rfl, sd.fz dx, so.dz dy, sn.dz dz, .inl ⟨bad, fun G' s => q G' (s1.trans s)⟩⟩
theorem ch_T (c : Ctx K S ρ σ G) (m : MakesVs K S ρ ta [d, eo, en]) (sd : Sm d) (so : Sm eo) (sn : Sm en) (td : factD d = true) (bad : (termD eo && termD en) = false) (q : ∀ G', Same G G' → E (.ref CT) none G') : tCall (spCh K CF CT) [] E ta σ G Q :=
  mkv c m fun xs G1 s1 dd => by
    obtain ⟨x, y, z, rfl, dx, dy, dz⟩ := dx3 dd
    exact ⟨x, y, z, d, eo, en, rfl, sd.fz dx, so.dz dy, sn.dz dz, .inr (.inl ⟨td, bad, fun G' s => q G' (s1.trans s)⟩)⟩
theorem ch_C (c : Ctx K S ρ σ G) (m : MakesVs K S ρ ta [d, eo, en]) (sd : Sm d) (so : Sm eo) (sn : Sm en) (td : factD d = true) (tt : (termD eo && termD en) = true) (sz : szAll ((prsD d).map (putC eo en)) ≤ 10000) (sh : shortAll ((prsD d).map (putC eo en)) = true) (hp : ∀ a, a ∈ sidesD (prsD d) → (preD a).length + (preD eo).length ≤ 100000)
    (h : (couplesD ((prsD d).map (putC eo en)) = false ∧ ∀ H', Same G H' → E (.ref CF) none H') ∨ (couplesD ((prsD d).map (putC eo en)) = true ∧ ∀ y H', Same G H' → Q y H')) : tCall (spCh K CF CT) [] E ta σ G Q :=
  mkv c m fun xs G1 s1 dd => by
    obtain ⟨x, y, z, rfl, dx, dy, dz⟩ := dx3 dd
    exact ⟨x, y, z, d, eo, en, rfl, sd.fz dx, so.dz dy, sn.dz dz, .inr (.inr ⟨td, tt, sz, sh, hp, h.imp (fun h => ⟨h.1, fun G' s => h.2 G' (s1.trans s)⟩) fun h => ⟨h.1, fun y G' s => h.2 y G' (s1.trans s)⟩⟩)⟩
theorem fr_F (c : Ctx K S ρ σ G) (m : MakesVs K S ρ ta [d, e]) (sd : Sm d) (bad : factD d = false) (q : ∀ G', Same G G' → E (.ref CF) none G') : tCall (spFr P w K CF CN CO) [] E ta σ G Q :=
  mkv c m fun xs G1 s1 dd => by
    obtain ⟨x, y, rfl, dx, dy⟩ := dx2 dd
    exact ⟨x, y, d, rfl, sd.fz dx, .inl ⟨bad, fun G' s => q G' (s1.trans s)⟩⟩
end
end K14
/-! _law_case_right. -/
namespace K14
open PySem PySem.Spec PyProof.Rows L2 Kx LamX
/-- all but the dice and the tables stay -/
def Bt (a : Addr) (H H' : Hp) : Prop := ∀ b o, H b = some o → b ≠ a → (∀ ps, o ≠ .tbl ps) → H' b = some o
section
variable {a b : Addr} {n : Nat} {H H' H1 H2 : Hp} {K : PySem.W.Frag} {T : List (Addr × Str)}
theorem Bt.but (x : But a H H') : Bt a H H' := fun b o h m _ => x b o h m
theorem Bt.same (x : Same H H') : Bt a H H' := fun b o h _ _ => x b o h
theorem Bt.ext (x : ExtN H H') : Bt a H H' := fun b o h _ m => x b o h m
theorem Bt.trans (x : Bt a H H1) (y : Bt a H1 H2) : Bt a H H2 := fun b o h m k => y b o (x b o h m k) m k
theorem dice_ext (d : Dice H a n) (x : ExtN H H') : Dice H' a n := by
  obtain ⟨i0, i1, i2, z, r⟩ := d
  exact ⟨i0, i1, i2, x _ _ z (fun ps e => nomatch e), r⟩
theorem tabs_but (t : Tabs T H) (x : But a H H') (d : Dice H a n) : Tabs T H' := fun p hp => by
  obtain ⟨_, _, _, hz, _⟩ := d
  obtain ⟨ps, h1, h2, h3⟩ := t p hp
  refine ⟨ps, x _ _ h1 (ne_of h1 hz (fun e => nomatch e)), h2, fun pos cv hc => ?_⟩
  obtain ⟨c, e1, e2⟩ := h3 pos cv hc
  exact ⟨c, e1, x _ _ e2 (ne_of e2 hz (fun e => by unfold CodeO at e; cases e))⟩
theorem off_one (d : Dice H a n) : Olds [a] H := fun b hb z => by
  rw [List.mem_singleton.mp hb] at z
  obtain ⟨_, _, _, h, _⟩ := d
  rw [h] at z
  cases z
theorem offs_but (x : But a H H') : Same (OffS [a] H) (OffS [a] H') := fun b o h => by
  obtain ⟨nb, h⟩ := OffS.of h
  exact OffS.out nb (x b o h (fun e => nb (by rw [e]; exact List.mem_singleton_self _)))
theorem ctx_of {ρ : List (Nat × PyData)} {σ : L2.St} (d : Dice H a n) (l : Lc K [a] ρ σ H) : Ctx K [a] ρ σ H := ⟨l, fun b hb => by
  obtain ⟨_, _, _, h, _⟩ := d
  rw [List.mem_singleton.mp hb]
  exact ⟨_, h, fun ps z => nomatch z⟩⟩
theorem BadNm.ext {P : Program} {w : World} {v : V} (h : BadNm P w K H v) (e : ExtN H H') : BadNm P w K H' v := by
  cases h with
  | dat a b => exact .dat (a.ext e) b
  | dic a b c d f => exact .dic (e _ _ a (fun ps z => nomatch z)) (fun x hx => ⟨(b x hx).1.ext (offs_ext e), (b x hx).2⟩) c d f
  | non a => exact .non (e _ _ a (fun ps z => by unfold DNo at z; cases z))
end
def lowC : PyData := .tuple [.str "a"]
def midC : PyData := .tuple [.str "b"]
def factC : PyData := .tuple [.tuple [.tuple [.tuple [.str "a"], .tuple [.str "b"]]], .tuple [.tuple [.str "c"], .tuple [.str "f", .tuple [.str "a"]]]]
theorem smL : Sm lowC := sm_of (by decide +kernel)
theorem smM : Sm midC := sm_of (by decide +kernel)
theorem smF : Sm factC := sm_of (by decide +kernel)
structure NoC (d : PyData) : Prop where
  s1 : shortAll ([] ++ endOf (.tuple [d, lowC])) = true
  z1 : szAll ([] ++ endOf (.tuple [d, lowC])) ≤ 10000
  c1 : couplesD ([] ++ endOf (.tuple [d, lowC])) = false
  s2 : shortAll ([.tuple [lowC, midC], .tuple [lowC, d]] ++ endOf .none) = true
  z2 : szAll ([.tuple [lowC, midC], .tuple [lowC, d]] ++ endOf .none) ≤ 10000
  c2 : couplesD ([.tuple [lowC, midC], .tuple [lowC, d]] ++ endOf .none) = false
theorem noc_ok : ∀ d, d ∈ noterms → NoC d := by
  have e : (noterms.all fun d => shortAll ([] ++ endOf (.tuple [d, lowC])) && decide (szAll ([] ++ endOf (.tuple [d, lowC])) ≤ 10000) && !couplesD ([] ++ endOf (.tuple [d, lowC])) && shortAll ([.tuple [lowC, midC], .tuple [lowC, d]] ++ endOf .none) && decide (szAll ([.tuple [lowC, midC], .tuple [lowC, d]] ++ endOf .none) ≤ 10000) && !couplesD ([.tuple [lowC, midC], .tuple [lowC, d]] ++ endOf .none)) = true := by decide +kernel
  intro d hd
  have z := List.all_eq_true.mp e d hd
  simp only [Bool.and_eq_true, Bool.not_eq_true', decide_eq_true_eq] at z
  obtain ⟨⟨⟨⟨⟨h1, h2⟩, h3⟩, h4⟩, h5⟩, h6⟩ := z
  exact ⟨h1, h2, h3, h4, h5, h6⟩
theorem lc_case {K : PySem.W.Frag} {H : Hp} {a : Addr} {xb xf xl xm xo xt : V} {db do' dt : PyData} (hb : Dx K (OffS [a] H) xb db) (hf : Dx K (OffS [a] H) xf factC) (hl : Dx K (OffS [a] H) xl lowC) (hm : Dx K (OffS [a] H) xm midC) (ho : Dx K (OffS [a] H) xo do') (ht : Dx K (OffS [a] H) xt dt) (y c w : Option V) :
    Lc K [a] [(2, db), (3, factC), (4, lowC), (5, midC), (6, do'), (7, dt)] [y, c, some xb, some xf, some xl, some xm, some xo, some xt, w] H := fun p hp => by
  simp only [List.mem_cons, List.not_mem_nil, or_false] at hp
  rcases hp with rfl | rfl | rfl | rfl | rfl | rfl
  · exact ⟨_, rfl, hb⟩
  · exact ⟨_, rfl, hf⟩
  · exact ⟨_, rfl, hl⟩
  · exact ⟨_, rfl, hm⟩
  · exact ⟨_, rfl, ho⟩
  · exact ⟨_, rfl, ht⟩
section
variable {P : Program} {w : World} {K : PySem.W.Frag} {mg : Str → Option Value} {base : Heap}
theorem kw_F {S : List Addr} {ρ : List (Nat × PyData)} {σ : L2.St} {G : Hp} {Q : VK} {E : XK} {i : Nat} {d : PyData} {y : Str} {CF CN CO : Addr} (c : Ctx K S ρ σ G) (m : MakesV K S ρ (tVar i) d) (sd : Sm d) (bad : factD d = false) (q : ∀ G', Same G G' → E (.ref CF) none G') :
    (fun σ H Q => tCons (tVar i) tNil σ H fun vs H1 => tCons (tC (.str y)) tNil σ H1 fun zs H2 => ∃ v, vs = [v] ∧ zs.length = [("a" : Str)].length ∧ ∀ d, H2 d = none → spFr P w K CF CN CO [v, .ref d] (upd H2 d (.dK (kwD ["a"] zs))) Q E : TE) σ G Q :=
  m σ G _ c.old c.lc fun x G1 s1 dx => ⟨x, rfl, rfl, fun p np => ⟨x, _, d, rfl, sd.fz ((dx.up OffS.all).up (same_put np)), .inl ⟨bad, fun G' s => q G' (s1.trans ((same_put np).trans s))⟩⟩⟩
abbrev Zr (P : Program) (w : World) (K : PySem.W.Frag) (mg : Str → Option Value) (base : Heap) (g : Addr) (cdg : Value) (A : Around) (outer : List Env) (s : Shared) (H : Hp) (E : XK) : Cx := (cxOf CX0 P w K mg base N__law_case_right "_law_case_right" (defScope s__law_case_right) g cdg A outer s H E).nox
def spCr (K : PySem.W.Frag) (tabs : List (Addr × Str)) : Sp := fun vs H Q _ => ∃ (a : Addr) (n : Nat), vs = [.ref a] ∧ Dice H a n ∧ n + 4 < cap ∧ Tabs tabs H ∧
  ∀ H', Bt a H H' → Dice H' a (n + 4) → Tabs tabs H' → Q (.bl true) H'
theorem ok_cr (T : Tx K mg) (Y : Ty T) (TB : TabB base mg Y.cC Y.PC) : FnOk P w K mg base CX0 12 T.a_law_case_right T.d_law_case_right ["dice"] (spCr K Y.tb) := by
  have nd := sc__law_case_right.nd
  have Gt := ok_noterm (P := P) (w := w) (base := base) T
  have Gf := ok_nofact (P := P) (w := w) (base := base) T
  have Gn := ok_noN (P := P) (w := w) (base := base) T
  have Ges := ok_errs (P := P) (w := w) (base := base) T Y.kn 9
  have Ger := ok_err (P := P) (w := w) (base := base) T Y.kn 9
  have Gp := ok_pair (P := P) (w := w) (base := base) T
  have Gi := ok_fact (P := P) (w := w) (base := base) T
  have Gmp := ok_mp (P := P) (w := w) (base := base) T
  have Gmf := ok_mf (P := P) (w := w) (base := base) T
  have Gfn := ok_frn1 (P := P) (w := w) (base := base) T
  have Gfr := ok_fr (P := P) (w := w) (base := base) T
  have Gpl := ok_pin (P := P) (w := w) (base := base) T
  have Gto := ok_tof (P := P) (w := w) (base := base) T
  have Gno := ok_nof (P := P) (w := w) (base := base) T
  have Gtx := ok_ftx (P := P) (w := w) (base := base) T
  have Gcu := ok_cut (P := P) (w := w) (base := base) T
  have Gch := ok_ch (P := P) (w := w) (base := base) T
  refine okC T.f_law_case_right sc__law_case_right (fun vs H Q E h => ?_) (fun cdv A outer s H vs Q E ecd hr h => ?_)
  · obtain ⟨a, n, rfl, _⟩ := h
    rfl
  · obtain ⟨a, n, rfl, hd, hn, tt, q⟩ := h
    have ec : cdv = .ref Y.cC := by rw [← ecd, Y.codeC]
    refine ⟨_, (pss_cons (ps_asg (pe_tup (pa_cons (pe_tup (pa_cons pe_str pa_nil)) (pa_cons (pe_tup (pa_cons pe_str pa_nil)) (pa_cons (pe_tup (pa_cons (pe_tup (pa_cons (pe_tup (pa_cons (pe_tup (pa_cons pe_str pa_nil)) (pa_cons (pe_tup (pa_cons pe_str pa_nil)) pa_nil))) pa_nil)) (pa_cons (pe_tup (pa_cons (pe_tup (pa_cons pe_str pa_nil)) (pa_cons (pe_tup (pa_cons pe_str (pa_cons (pe_tup (pa_cons pe_str pa_nil)) pa_nil))) pa_nil))) pa_nil))) pa_nil)))) (pg_tup rfl (pgs_cons (pg_name (i := 4) nd rfl (.inr rfl)) (pgs_cons (pg_name (i := 5) nd rfl (.inr rfl)) (pgs_cons (pg_name (i := 3) nd rfl (.inr rfl)) pgs_nil)))))
      (pss_cons (ps_asg (pe_tup (pa_cons (pe_call Gt (hr.mono (by omega)) (by rfl) T.g_law_no_term T.f_law_no_term.kp T.n_law_no_term .nil pass0 (pa_cons (pv 0) pa_nil)) (pa_cons (pe_call Gt (hr.mono (by omega)) (by rfl) T.g_law_no_term T.f_law_no_term.kp T.n_law_no_term .nil pass0 (pa_cons (pv 0) pa_nil)) pa_nil))) (pg_tup rfl (pgs_cons (pg_name (i := 6) nd rfl (.inr rfl)) (pgs_cons (pg_name (i := 7) nd rfl (.inr rfl)) pgs_nil))))
      (pss_cons (ps_set (i := 2) nd rfl (.inr rfl) (pe_call Gf (hr.mono (by omega)) (by rfl) T.g_law_no_fact T.f_law_no_fact.kp T.n_law_no_fact .nil pass0 (pa_cons (pv 0) pa_nil)))
      (pss_cons (ps_set (i := 1) nd rfl (.inl rfl) (pe_lst (pa_cons (pe_lam TB ec Y.hC.1 Y.hC.2 (lamS_by (sc := defScope s__law_case_right) (by decide +kernel)) rfl) pa_nil)))
      (pss_cons (ps_expr (pe_bm PySem.F.plainAttrs_list PySem.F.slot_list_append PySem.F.type_list_append mt_append (pv 1) (pa_cons (pe_lam TB ec Y.hC.1 Y.hC.2 (lamS_by (sc := defScope s__law_case_right) (by decide +kernel)) rfl) pa_nil)))
      (pss_cons (ps_expr (pe_bm PySem.F.plainAttrs_list PySem.F.slot_list_append PySem.F.type_list_append mt_append (pv 1) (pa_cons (pe_lam TB ec Y.hC.1 Y.hC.2 (lamS_by (sc := defScope s__law_case_right) (by decide +kernel)) rfl) pa_nil)))
      (pss_cons (ps_expr (pe_bm PySem.F.plainAttrs_list PySem.F.slot_list_append PySem.F.type_list_append mt_append (pv 1) (pa_cons (pe_lam TB ec Y.hC.1 Y.hC.2 (lamS_by (sc := defScope s__law_case_right) (by decide +kernel)) rfl) pa_nil)))
      (pss_cons (ps_if (pt_cmpR (op_neF (room200 hr)) (pe_callM (fun _ => rfl) Ges (hr.mono (by omega)) (by rfl) T.g_law_errors T.f_law_errors.kp T.n_law_errors (pa_cons (pv 1) pa_nil)) (pe_op op_cat (pe_op op_rep (pe_lst (pa_cons pe_str pa_nil)) pe_int) (pe_lst (pa_cons pe_str pa_nil))) (nomark _)) (pss_one (ps_ret pe_bl)) pss_nil)
      (pss_cons (ps_set (i := 1) nd rfl (.inl rfl) (pe_lst (pa_cons (pe_lam TB ec Y.hC.1 Y.hC.2 (lamS_by (sc := defScope s__law_case_right) (by decide +kernel)) rfl) pa_nil)))
      (pss_cons (ps_expr (pe_bm PySem.F.plainAttrs_list PySem.F.slot_list_append PySem.F.type_list_append mt_append (pv 1) (pa_cons (pe_lam TB ec Y.hC.1 Y.hC.2 (lamS_by (sc := defScope s__law_case_right) (by decide +kernel)) rfl) pa_nil)))
      (pss_cons (ps_expr (pe_bm PySem.F.plainAttrs_list PySem.F.slot_list_append PySem.F.type_list_append mt_append (pv 1) (pa_cons (pe_lam TB ec Y.hC.1 Y.hC.2 (lamS_by (sc := defScope s__law_case_right) (by decide +kernel)) rfl) pa_nil)))
      (pss_cons (ps_expr (pe_bm PySem.F.plainAttrs_list PySem.F.slot_list_append PySem.F.type_list_append mt_append (pv 1) (pa_cons (pe_lam TB ec Y.hC.1 Y.hC.2 (lamS_by (sc := defScope s__law_case_right) (by decide +kernel)) rfl) pa_nil)))
      (pss_cons (ps_expr (pe_bm PySem.F.plainAttrs_list PySem.F.slot_list_append PySem.F.type_list_append mt_append (pv 1) (pa_cons (pe_lam TB ec Y.hC.1 Y.hC.2 (lamS_by (sc := defScope s__law_case_right) (by decide +kernel)) rfl) pa_nil)))
      (pss_cons (ps_expr (pe_bm PySem.F.plainAttrs_list PySem.F.slot_list_append PySem.F.type_list_append mt_append (pv 1) (pa_cons (pe_lam TB ec Y.hC.1 Y.hC.2 (lamS_by (sc := defScope s__law_case_right) (by decide +kernel)) rfl) pa_nil)))
      (pss_cons (ps_expr (pe_bm PySem.F.plainAttrs_list PySem.F.slot_list_append PySem.F.type_list_append mt_append (pv 1) (pa_cons (pe_lam TB ec Y.hC.1 Y.hC.2 (lamS_by (sc := defScope s__law_case_right) (by decide +kernel)) rfl) pa_nil)))
      (pss_cons (ps_expr (pe_bm PySem.F.plainAttrs_list PySem.F.slot_list_append PySem.F.type_list_append mt_append (pv 1) (pa_cons (pe_lam TB ec Y.hC.1 Y.hC.2 (lamS_by (sc := defScope s__law_case_right) (by decide +kernel)) rfl) pa_nil)))
      (pss_cons (ps_expr (pe_bm PySem.F.plainAttrs_list PySem.F.slot_list_append PySem.F.type_list_append mt_append (pv 1) (pa_cons (pe_lam TB ec Y.hC.1 Y.hC.2 (lamS_by (sc := defScope s__law_case_right) (by decide +kernel)) rfl) pa_nil)))
      (pss_cons (ps_expr (pe_bm PySem.F.plainAttrs_list PySem.F.slot_list_append PySem.F.type_list_append mt_append (pv 1) (pa_cons (pe_lam TB ec Y.hC.1 Y.hC.2 (lamS_by (sc := defScope s__law_case_right) (by decide +kernel)) rfl) pa_nil)))
      (pss_cons (ps_expr (pe_bm PySem.F.plainAttrs_list PySem.F.slot_list_append PySem.F.type_list_append mt_append (pv 1) (pa_cons (pe_lam TB ec Y.hC.1 Y.hC.2 (lamS_by (sc := defScope s__law_case_right) (by decide +kernel)) rfl) pa_nil)))
      (pss_cons (ps_expr (pe_bm PySem.F.plainAttrs_list PySem.F.slot_list_append PySem.F.type_list_append mt_append (pv 1) (pa_cons (pe_lam TB ec Y.hC.1 Y.hC.2 (lamS_by (sc := defScope s__law_case_right) (by decide +kernel)) rfl) pa_nil)))
      (pss_cons (ps_expr (pe_bm PySem.F.plainAttrs_list PySem.F.slot_list_append PySem.F.type_list_append mt_append (pv 1) (pa_cons (pe_lam TB ec Y.hC.1 Y.hC.2 (lamS_by (sc := defScope s__law_case_right) (by decide +kernel)) rfl) pa_nil)))
      (pss_cons (ps_expr (pe_bm PySem.F.plainAttrs_list PySem.F.slot_list_append PySem.F.type_list_append mt_append (pv 1) (pa_cons (pe_lam TB ec Y.hC.1 Y.hC.2 (lamS_by (sc := defScope s__law_case_right) (by decide +kernel)) rfl) pa_nil)))
      (pss_cons (ps_expr (pe_bm PySem.F.plainAttrs_list PySem.F.slot_list_append PySem.F.type_list_append mt_append (pv 1) (pa_cons (pe_lam TB ec Y.hC.1 Y.hC.2 (lamS_by (sc := defScope s__law_case_right) (by decide +kernel)) rfl) pa_nil)))
      (pss_cons (ps_expr (pe_bm PySem.F.plainAttrs_list PySem.F.slot_list_append PySem.F.type_list_append mt_append (pv 1) (pa_cons (pe_lam TB ec Y.hC.1 Y.hC.2 (lamS_by (sc := defScope s__law_case_right) (by decide +kernel)) rfl) pa_nil)))
      (pss_cons (ps_expr (pe_bm PySem.F.plainAttrs_list PySem.F.slot_list_append PySem.F.type_list_append mt_append (pv 1) (pa_cons (pe_lam TB ec Y.hC.1 Y.hC.2 (lamS_by (sc := defScope s__law_case_right) (by decide +kernel)) rfl) pa_nil)))
      (pss_cons (ps_expr (pe_bm PySem.F.plainAttrs_list PySem.F.slot_list_append PySem.F.type_list_append mt_append (pv 1) (pa_cons (pe_lam TB ec Y.hC.1 Y.hC.2 (lamS_by (sc := defScope s__law_case_right) (by decide +kernel)) rfl) pa_nil)))
      (pss_cons (ps_expr (pe_bm PySem.F.plainAttrs_list PySem.F.slot_list_append PySem.F.type_list_append mt_append (pv 1) (pa_cons (pe_lam TB ec Y.hC.1 Y.hC.2 (lamS_by (sc := defScope s__law_case_right) (by decide +kernel)) rfl) pa_nil)))
      (pss_cons (ps_expr (pe_bm PySem.F.plainAttrs_list PySem.F.slot_list_append PySem.F.type_list_append mt_append (pv 1) (pa_cons (pe_lam TB ec Y.hC.1 Y.hC.2 (lamS_by (sc := defScope s__law_case_right) (by decide +kernel)) rfl) pa_nil)))
      (pss_cons (ps_if (pt_cmpR (op_neF (room200 hr)) (pe_callM (fun _ => rfl) Ges (hr.mono (by omega)) (by rfl) T.g_law_errors T.f_law_errors.kp T.n_law_errors (pa_cons (pv 1) pa_nil)) (pe_op op_rep (pe_lst (pa_cons pe_str pa_nil)) pe_int) (nomark _)) (pss_one (ps_ret pe_bl)) pss_nil)
      (pss_cons (ps_set (i := 1) nd rfl (.inl rfl) (pe_lst (pa_cons (pe_lam TB ec Y.hC.1 Y.hC.2 (lamS_by (sc := defScope s__law_case_right) (by decide +kernel)) rfl) pa_nil)))
      (pss_cons (ps_expr (pe_bm PySem.F.plainAttrs_list PySem.F.slot_list_append PySem.F.type_list_append mt_append (pv 1) (pa_cons (pe_lam TB ec Y.hC.1 Y.hC.2 (lamS_by (sc := defScope s__law_case_right) (by decide +kernel)) rfl) pa_nil)))
      (pss_cons (ps_if (PW.pt (pw_or (pt_cmpR (op_neF (room200 hr)) (pe_callM (fun _ => rfl) Ges (hr.mono (by omega)) (by rfl) T.g_law_errors T.f_law_errors.kp T.n_law_errors (pa_cons (pv 1) pa_nil)) (pe_op op_rep (pe_lst (pa_cons pe_str pa_nil)) pe_int) (nomark _)) (pw_or (pt_cmpR op_notBl (pe_call Gp (hr.mono (by omega)) (by rfl) T.gis_pair T.fis_pair.kp T.nis_pair .nil pass0 (pa_cons (pv 6) pa_nil)) pe_bl (nomark _)) (pw_or1 (pt_cmpR op_notBl (pe_call Gi (hr.mono (by omega)) (by rfl) T.gis_fact T.fis_fact.kp T.nis_fact .nil pass0 (pa_cons (pv 6) pa_nil)) pe_bl (nomark _)))))) (pss_one (ps_ret pe_bl)) pss_nil)
      (pss_cons (ps_set (i := 8) nd rfl (.inr rfl) (pe_call Gn (hr.mono (by omega)) (by rfl) T.g_law_no_names T.f_law_no_names.kp T.n_law_no_names .nil pass0 (pa_cons (pv 0) pa_nil)))
      (pss_one (ps_ret (pe_and (pe_cmpR op_isBl (pe_call Gi (hr.mono (by omega)) (by rfl) T.gis_fact T.fis_fact.kp T.nis_fact .nil pass0 (pa_cons (pv 2) pa_nil)) pe_bl (nomark _)) (pe_one (pe_cmpR op_eq (pe_callM (fun _ => rfl) Ger (hr.mono (by omega)) (by rfl) T.g_law_error T.f_law_error.kp T.n_law_error (pa_cons (pe_lam TB ec Y.hC.1 Y.hC.2 (lamS_by (sc := defScope s__law_case_right) (by decide +kernel)) rfl) pa_nil)) pe_str (nomark _))))))))))))))))))))))))))))))))))))))), ?_⟩
    refine asg2_mv (K := K) (S := [a]) (ρ := []) (mv_of (mk_tup (mk_cons (mk_tup (mk_cons (mk_str _) mk_nil)) (mk_cons (mk_tup (mk_cons (mk_str _) mk_nil)) (mk_cons (mk_tup (mk_cons (mk_tup (mk_cons (mk_tup (mk_cons (mk_tup (mk_cons (mk_str _) mk_nil)) (mk_cons (mk_tup (mk_cons (mk_str _) mk_nil)) mk_nil))) mk_nil)) (mk_cons (mk_tup (mk_cons (mk_tup (mk_cons (mk_str _) mk_nil)) (mk_cons (mk_tup (mk_cons (mk_str _) (mk_cons (mk_tup (mk_cons (mk_str _) mk_nil)) mk_nil))) mk_nil))) mk_nil))) mk_nil))))) (off_one hd) (fun p hp => by cases hp) fun x1 H1 s1 d1 => ?_
    cases d1 with
    | @tup p _ _ hp dd =>
    obtain ⟨xl, xm, xf, rfl, dl, dm, df⟩ := dx3 dd
    refine ⟨p, _, rfl, SqT.of (OffS.all _ _ hp), rfl, _, _, rfl, _, _, rfl, _, _, rfl, rfl, ?_⟩
    have hd1 := hd.up s1
    refine ⟨_, rfl, a, n, [a], rfl, hd1, by omega, List.mem_singleton_self _, off_one hd1, fun xo do' H2 bt2 hd2 dxo mo => ?_⟩
    refine ⟨_, rfl, a, n + 1, [a], rfl, hd2, by omega, List.mem_singleton_self _, off_one hd2, fun xt dt H3 bt3 hd3 dxt mt => ?_⟩
    refine ⟨(by show 2 ≤ sizeLine; decide), fun p2 np2 => ⟨p2, _, rfl, SqT.of upd_same, rfl, _, _, rfl, _, _, rfl, rfl, ?_⟩⟩
    have s4 := same_put (o := .tup [xo, xt]) np2
    have b4 : But a H (upd H3 p2 (.tup [xo, xt])) := (But.of s1).trans (bt2.trans (bt3.trans (.of s4)))
    have k1 : Same (OffS [a] H1) (OffS [a] (upd H3 p2 (.tup [xo, xt]))) := (offs_but bt2).trans ((offs_but bt3).trans (OffS.same s4))
    have k2 : Same (OffS [a] H2) (OffS [a] (upd H3 p2 (.tup [xo, xt]))) := (offs_but bt3).trans (OffS.same s4)
    have hd4 := hd3.up s4
    have dl := dl.up k1
    have dm := dm.up k1
    have df := df.up k1
    have dxo := dxo.up k2
    have dxt := dxt.up (OffS.same s4)
    have t4 := tabs_but tt b4 hd
    generalize upd H3 p2 (.tup [xo, xt]) = H4 at b4 hd4 dl dm df dxo dxt t4 ⊢
    refine ⟨_, rfl, a, n + 2, [a], rfl, hd4, by omega, List.mem_singleton_self _, off_one hd4, fun xb db H5 bt5 hd5 dxb mb => ?_⟩
    have k5 := offs_but bt5
    have C5 : ∀ y c w, Ctx K [a] _ [y, c, some xb, some xf, some xl, some xm, some xo, some xt, w] H5 := fun y c w => ctx_of hd5 (lc_case dxb (df.up k5) (dl.up k5) (dm.up k5) (dxo.up k5) (dxt.up k5) y c w)
    have t5 := tabs_but t4 bt5 hd4
    have b5 : Bt a H H5 := (Bt.but b4).trans (.but bt5)
    have vB : MakesV K [a] [(2, db), (3, factC), (4, lowC), (5, midC), (6, do'), (7, dt)] (tVar 2) db := mv_var (by simp)
    have vF : MakesV K [a] [(2, db), (3, factC), (4, lowC), (5, midC), (6, do'), (7, dt)] (tVar 3) factC := mv_var (by simp)
    have vL : MakesV K [a] [(2, db), (3, factC), (4, lowC), (5, midC), (6, do'), (7, dt)] (tVar 4) lowC := mv_var (by simp)
    have vM : MakesV K [a] [(2, db), (3, factC), (4, lowC), (5, midC), (6, do'), (7, dt)] (tVar 5) midC := mv_var (by simp)
    have vO : MakesV K [a] [(2, db), (3, factC), (4, lowC), (5, midC), (6, do'), (7, dt)] (tVar 6) do' := mv_var (by simp)
    have vT : MakesV K [a] [(2, db), (3, factC), (4, lowC), (5, midC), (6, do'), (7, dt)] (tVar 7) dt := mv_var (by simp)
    have no := noterm_ok _ mo
    have nt := noterm_ok _ mt
    have nb := nofact_ok _ mb
    have nc := noc_ok _ mo
    refine asg_lay t5 fun la Ga1 La1 => ?_
    refine app_lay rfl La1 (by decide) fun Ga2 La2 => ?_
    refine app_lay rfl La2 (by decide) fun Ga3 La3 => ?_
    refine app_lay rfl La3 (by decide) fun Ga4 La4 => ?_

    have C := C5 (some (.ref a)) (some (.ref la)) none
    refine errs_lay rfl La4 (.cons (tells_raise (X := Zr P w K mg base T.a_law_case_right cdv A outer s H E) (T := T) (k := 8) (lamS_by (sc := defScope s__law_case_right) (by decide +kernel)) (fun _ _ _ _ _ => rfl) (fun A2 outer2 s2 H2 E2 f2 c2 hr2 => (pe_call Gmp (hr2.mono (by omega)) (by rfl) T.gmake_pair T.fmake_pair.kp T.nmake_pair .nil (passes_call (takes_of rfl rfl rfl rfl) (fun _ _ _ _ h => h)) (pa_cons (pv 6) (pa_cons (pv 7) pa_nil)))) wdT fun G E Q e q => mp_T (C.ext e) (mv_cons vO (mv_cons vT mv_nil)) no.sm nt.sm (by rw [no.t]; rfl) q)
      (.cons (tells_raise (X := Zr P w K mg base T.a_law_case_right cdv A outer s H E) (T := T) (k := 8) (lamS_by (sc := defScope s__law_case_right) (by decide +kernel)) (fun _ _ _ _ _ => rfl) (fun A2 outer2 s2 H2 E2 f2 c2 hr2 => (pe_call Gmp (hr2.mono (by omega)) (by rfl) T.gmake_pair T.fmake_pair.kp T.nmake_pair .nil (passes_call (takes_of rfl rfl rfl rfl) (fun _ _ _ _ h => h)) (pa_cons (pv 4) (pa_cons (pv 6) pa_nil)))) wdT fun G E Q e q => mp_T (C.ext e) (mv_cons vL (mv_cons vO mv_nil)) smL no.sm (by rw [no.t, Bool.and_false]) q)
      (.cons (tells_raise (X := Zr P w K mg base T.a_law_case_right cdv A outer s H E) (T := T) (k := 8) (lamS_by (sc := defScope s__law_case_right) (by decide +kernel)) (fun _ _ _ _ _ => rfl) (fun A2 outer2 s2 H2 E2 f2 c2 hr2 => (pe_call Gmp (hr2.mono (by omega)) (by rfl) T.gmake_pair T.fmake_pair.kp T.nmake_pair .nil (passes_call (takes_of rfl rfl rfl rfl) (fun _ _ _ _ h => h)) (pa_cons (pv 6) (pa_cons (pv 4) pa_nil)))) wdT fun G E Q e q => mp_T (C.ext e) (mv_cons vO (mv_cons vL mv_nil)) no.sm smL (by rw [no.t]; rfl) q)
      (.cons (tells_raise (X := Zr P w K mg base T.a_law_case_right cdv A outer s H E) (T := T) (k := 8) (lamS_by (sc := defScope s__law_case_right) (by decide +kernel)) (fun _ _ _ _ _ => rfl) (fun A2 outer2 s2 H2 E2 f2 c2 hr2 => (pe_call Gmp (hr2.mono (by omega)) (by rfl) T.gmake_pair T.fmake_pair.kp T.nmake_pair .nil (passes_call (takes_of rfl rfl rfl rfl) (fun _ _ _ _ h => h)) (pa_cons (pv 5) (pa_cons (pv 5) pa_nil)))) wdO fun G E Q e q => mp_O (C.ext e) (mv_cons vM (mv_cons vM mv_nil)) smM smM (by decide +kernel) (by decide +kernel) rfl q)
      (.nil))))) fun pa H6 s6 e6 => ?_
    refine ne_words e6 (mkw_cat (mkw_rep "term" 3 (by decide)) (mkw_lst (mkws_cons mkws_nil) (by decide)) (by decide)) (by decide +kernel) fun H7 s7 => ⟨_, rfl, iteF ?_⟩
    clear C
    have e57 : ExtN H5 H7 := La4.ext.trans (ext_sm (s6.trans s7))
    have t7 := La4.tabs.ext (s6.trans s7)
    have C7 := fun y c w => (C5 y c w).ext e57
    refine asg_lay t7 fun lb Gb1 Lb1 => ?_
    refine app_lay rfl Lb1 (by decide) fun Gb2 Lb2 => ?_
    refine app_lay rfl Lb2 (by decide) fun Gb3 Lb3 => ?_
    refine app_lay rfl Lb3 (by decide) fun Gb4 Lb4 => ?_
    refine app_lay rfl Lb4 (by decide) fun Gb5 Lb5 => ?_
    refine app_lay rfl Lb5 (by decide) fun Gb6 Lb6 => ?_
    refine app_lay rfl Lb6 (by decide) fun Gb7 Lb7 => ?_
    refine app_lay rfl Lb7 (by decide) fun Gb8 Lb8 => ?_
    refine app_lay rfl Lb8 (by decide) fun Gb9 Lb9 => ?_
    refine app_lay rfl Lb9 (by decide) fun Gb10 Lb10 => ?_
    refine app_lay rfl Lb10 (by decide) fun Gb11 Lb11 => ?_
    refine app_lay rfl Lb11 (by decide) fun Gb12 Lb12 => ?_
    refine app_lay rfl Lb12 (by decide) fun Gb13 Lb13 => ?_
    refine app_lay rfl Lb13 (by decide) fun Gb14 Lb14 => ?_
    refine app_lay rfl Lb14 (by decide) fun Gb15 Lb15 => ?_
    refine app_lay rfl Lb15 (by decide) fun Gb16 Lb16 => ?_
    refine app_lay rfl Lb16 (by decide) fun Gb17 Lb17 => ?_
    refine app_lay rfl Lb17 (by decide) fun Gb18 Lb18 => ?_
    refine app_lay rfl Lb18 (by decide) fun Gb19 Lb19 => ?_
    refine app_lay rfl Lb19 (by decide) fun Gb20 Lb20 => ?_

    have C := C7 (some (.ref a)) (some (.ref lb)) none
    refine errs_lay rfl Lb20 (.cons (tells_raise (X := Zr P w K mg base T.a_law_case_right cdv A outer s H E) (T := T) (k := 8) (lamS_by (sc := defScope s__law_case_right) (by decide +kernel)) (fun _ _ _ _ _ => rfl) (fun A2 outer2 s2 H2 E2 f2 c2 hr2 => (pe_callR Gmf (hr2.mono (by omega)) (by rfl) T.gmake_fact T.fmake_fact.kp (passes_call (takes_of rfl rfl rfl rfl) (fun _ _ _ _ h => h)) (pa_cons (pe_tup (pa_cons (pv 6) (pa_cons (pv 4) pa_nil))) pa_nil))) wdF fun G E Q e q => mf_F (C.ext e) (mv_cons (mv_tup (mv_cons vO (mv_cons vL mv_nil)) (by show 2 ≤ sizeLine; decide)) mv_nil) nc.s1 nc.z1 (by show 0 ≤ 100; decide) (.inl nc.c1) q)
      (.cons (tells_raise (X := Zr P w K mg base T.a_law_case_right cdv A outer s H E) (T := T) (k := 8) (lamS_by (sc := defScope s__law_case_right) (by decide +kernel)) (fun _ _ _ _ _ => rfl) (fun A2 outer2 s2 H2 E2 f2 c2 hr2 => (pe_callR Gmf (hr2.mono (by omega)) (by rfl) T.gmake_fact T.fmake_fact.kp (passes_call (takes_of rfl rfl rfl rfl) (fun _ _ _ _ h => h)) (pa_cons pe_non (pa_cons (pe_tup (pa_cons (pv 4) (pa_cons (pv 5) pa_nil))) (pa_cons (pe_tup (pa_cons (pv 4) (pa_cons (pv 6) pa_nil))) pa_nil))))) wdF fun G E Q e q => mf_F (C.ext e) (mv_cons (mv_of mk_non) (mv_cons (mv_tup (mv_cons vL (mv_cons vM mv_nil)) (by show 2 ≤ sizeLine; decide)) (mv_cons (mv_tup (mv_cons vL (mv_cons vO mv_nil)) (by show 2 ≤ sizeLine; decide)) mv_nil))) nc.s2 nc.z2 (by show 2 ≤ 100; decide) (.inl nc.c2) q)
      (.cons (tells_raise (X := Zr P w K mg base T.a_law_case_right cdv A outer s H E) (T := T) (k := 8) (lamS_by (sc := defScope s__law_case_right) (by decide +kernel)) (fun _ _ _ _ _ => rfl) (fun A2 outer2 s2 H2 E2 f2 c2 hr2 => (pe_callR Gmf (hr2.mono (by omega)) (by rfl) T.gmake_fact T.fmake_fact.kp (passes_call (takes_of rfl rfl rfl rfl) (fun _ _ _ _ h => h)) (pa_cons (pe_tup (pa_cons (pv 4) (pa_cons (pv 4) pa_nil))) pa_nil))) wdF fun G E Q e q => mf_F (C.ext e) (mv_cons (mv_tup (mv_cons vL (mv_cons vL mv_nil)) (by show 2 ≤ sizeLine; decide)) mv_nil) (by decide +kernel) (by decide +kernel) (by decide) (.inr ⟨fun z => (nomatch z), rfl⟩) q)
      (.cons (tells_raise (X := Zr P w K mg base T.a_law_case_right cdv A outer s H E) (T := T) (k := 8) (lamS_by (sc := defScope s__law_case_right) (by decide +kernel)) (fun _ _ _ _ _ => rfl) (fun A2 outer2 s2 H2 E2 f2 c2 hr2 => (pe_callR Gmf (hr2.mono (by omega)) (by rfl) T.gmake_fact T.fmake_fact.kp (passes_call (takes_of rfl rfl rfl rfl) (fun _ _ _ _ h => h)) (pa_cons pe_non (pa_cons (pe_tup (pa_cons (pv 4) (pa_cons (pv 5) (pa_cons (pv 4) pa_nil)))) pa_nil)))) wdF fun G E Q e q => mf_F (C.ext e) (mv_cons (mv_of mk_non) (mv_cons (mv_tup (mv_cons vL (mv_cons vM (mv_cons vL mv_nil))) (by show 3 ≤ sizeLine; decide)) mv_nil)) (by decide +kernel) (by decide +kernel) (by decide) (.inl (by decide +kernel)) q)
      (.cons (tells_raise (X := Zr P w K mg base T.a_law_case_right cdv A outer s H E) (T := T) (k := 8) (lamS_by (sc := defScope s__law_case_right) (by decide +kernel)) (fun _ _ _ _ _ => rfl) (fun A2 outer2 s2 H2 E2 f2 c2 hr2 => (pe_callR Gmf (hr2.mono (by omega)) (by rfl) T.gmake_fact T.fmake_fact.kp (passes_call (takes_of rfl rfl rfl rfl) (fun _ _ _ _ h => h)) (pa_cons (pe_lst (pa_cons (pv 4) (pa_cons (pv 5) pa_nil))) pa_nil))) wdF fun G E Q e q => mf_F (C.ext e) (mv_cons (mv_lst (mv_cons vL (mv_cons vM mv_nil)) (by show 2 ≤ sizeLine; decide)) mv_nil) (by decide +kernel) (by decide +kernel) (by decide) (.inl (by decide +kernel)) q)
      (.cons (tells_raise (X := Zr P w K mg base T.a_law_case_right cdv A outer s H E) (T := T) (k := 8) (lamS_by (sc := defScope s__law_case_right) (by decide +kernel)) (fun _ _ _ _ _ => rfl) (fun A2 outer2 s2 H2 E2 f2 c2 hr2 => (pe_callR Gmf (hr2.mono (by omega)) (by rfl) T.gmake_fact T.fmake_fact.kp (passes_call (takes_of rfl rfl rfl rfl) (fun _ _ _ _ h => h)) (pa_cons pe_non (pa_cons pe_non pa_nil)))) wdF fun G E Q e q => mf_F (C.ext e) (mv_cons (mv_of mk_non) (mv_cons (mv_of mk_non) mv_nil)) (by decide +kernel) (by decide +kernel) (by decide) (.inl (by decide +kernel)) q)
      (.cons (tells_raise (X := Zr P w K mg base T.a_law_case_right cdv A outer s H E) (T := T) (k := 8) (lamS_by (sc := defScope s__law_case_right) (by decide +kernel)) (fun _ _ _ _ _ => rfl) (fun A2 outer2 s2 H2 E2 f2 c2 hr2 => (pe_callR Gmf (hr2.mono (by omega)) (by rfl) T.gmake_fact T.fmake_fact.kp (passes_call (takes_of rfl rfl rfl rfl) (fun _ _ _ _ h => h)) (pa_cons (pe_tup (pa_cons (pv 4) (pa_cons (pe_tup (pa_cons pe_str (pa_cons (pv 5) pa_nil))) pa_nil))) (pa_cons (pe_tup (pa_cons (pv 5) (pa_cons (pe_tup (pa_cons pe_str pa_nil)) pa_nil))) pa_nil)))) wdF fun G E Q e q => mf_F (C.ext e) (mv_cons (mv_tup (mv_cons vL (mv_cons (mv_tup (mv_cons (mv_of (mk_str _)) (mv_cons vM mv_nil)) (by show 2 ≤ sizeLine; decide)) mv_nil)) (by show 2 ≤ sizeLine; decide)) (mv_cons (mv_tup (mv_cons vM (mv_cons (mv_tup (mv_cons (mv_of (mk_str _)) mv_nil) (by show 1 ≤ sizeLine; decide)) mv_nil)) (by show 2 ≤ sizeLine; decide)) mv_nil)) (by decide +kernel) (by decide +kernel) (by decide) (.inl (by decide +kernel)) q)
      (.cons (tells_raise (X := Zr P w K mg base T.a_law_case_right cdv A outer s H E) (T := T) (k := 8) (lamS_by (sc := defScope s__law_case_right) (by decide +kernel)) (fun _ _ _ _ _ => rfl) (fun A2 outer2 s2 H2 E2 f2 c2 hr2 => (pe_callR Gmf (hr2.mono (by omega)) (by rfl) T.gmake_fact T.fmake_fact.kp (passes_call (takes_of rfl rfl rfl rfl) (fun _ _ _ _ h => h)) (pa_cons (pe_tup (pa_cons (pv 4) (pa_cons (pe_tup (pa_cons pe_str (pa_cons (pv 5) pa_nil))) pa_nil))) (pa_cons (pe_tup (pa_cons (pe_tup (pa_cons pe_str pa_nil)) (pa_cons (pe_tup (pa_cons pe_str pa_nil)) pa_nil))) pa_nil)))) wdF fun G E Q e q => mf_F (C.ext e) (mv_cons (mv_tup (mv_cons vL (mv_cons (mv_tup (mv_cons (mv_of (mk_str _)) (mv_cons vM mv_nil)) (by show 2 ≤ sizeLine; decide)) mv_nil)) (by show 2 ≤ sizeLine; decide)) (mv_cons (mv_tup (mv_cons (mv_tup (mv_cons (mv_of (mk_str _)) mv_nil) (by show 1 ≤ sizeLine; decide)) (mv_cons (mv_tup (mv_cons (mv_of (mk_str _)) mv_nil) (by show 1 ≤ sizeLine; decide)) mv_nil)) (by show 2 ≤ sizeLine; decide)) mv_nil)) (by decide +kernel) (by decide +kernel) (by decide) (.inl (by decide +kernel)) q)
      (.cons (tells_raise (X := Zr P w K mg base T.a_law_case_right cdv A outer s H E) (T := T) (k := 8) (lamS_by (sc := defScope s__law_case_right) (by decide +kernel)) (fun _ _ _ _ _ => rfl) (fun A2 outer2 s2 H2 E2 f2 c2 hr2 => (pe_callR Gmf (hr2.mono (by omega)) (by rfl) T.gmake_fact T.fmake_fact.kp (passes_call (takes_of rfl rfl rfl rfl) (fun _ _ _ _ h => h)) (pa_cons (pe_tup (pa_cons (pe_tup (pa_cons pe_str pa_nil)) (pa_cons (pv 5) pa_nil))) (pa_cons (pe_tup (pa_cons (pe_tup (pa_cons pe_str (pa_cons (pv 4) pa_nil))) (pa_cons (pe_tup (pa_cons pe_str (pa_cons (pv 4) pa_nil))) pa_nil))) pa_nil)))) wdF fun G E Q e q => mf_F (C.ext e) (mv_cons (mv_tup (mv_cons (mv_tup (mv_cons (mv_of (mk_str _)) mv_nil) (by show 1 ≤ sizeLine; decide)) (mv_cons vM mv_nil)) (by show 2 ≤ sizeLine; decide)) (mv_cons (mv_tup (mv_cons (mv_tup (mv_cons (mv_of (mk_str _)) (mv_cons vL mv_nil)) (by show 2 ≤ sizeLine; decide)) (mv_cons (mv_tup (mv_cons (mv_of (mk_str _)) (mv_cons vL mv_nil)) (by show 2 ≤ sizeLine; decide)) mv_nil)) (by show 2 ≤ sizeLine; decide)) mv_nil)) (by decide +kernel) (by decide +kernel) (by decide) (.inl (by decide +kernel)) q)
      (.cons (tells_raise (X := Zr P w K mg base T.a_law_case_right cdv A outer s H E) (T := T) (k := 8) (lamS_by (sc := defScope s__law_case_right) (by decide +kernel)) (fun _ _ _ _ _ => rfl) (fun A2 outer2 s2 H2 E2 f2 c2 hr2 => (pe_callR Gmf (hr2.mono (by omega)) (by rfl) T.gmake_fact T.fmake_fact.kp (passes_call (takes_of rfl rfl rfl rfl) (fun _ _ _ _ h => h)) (pa_cons pe_non (pa_cons (pe_lst (pa_cons (pv 4) (pa_cons (pv 5) pa_nil))) pa_nil)))) wdF fun G E Q e q => mf_F (C.ext e) (mv_cons (mv_of mk_non) (mv_cons (mv_lst (mv_cons vL (mv_cons vM mv_nil)) (by show 2 ≤ sizeLine; decide)) mv_nil)) (by decide +kernel) (by decide +kernel) (by decide) (.inl (by decide +kernel)) q)
      (.cons (tells_raise (X := Zr P w K mg base T.a_law_case_right cdv A outer s H E) (T := T) (k := 8) (lamS_by (sc := defScope s__law_case_right) (by decide +kernel)) (fun _ _ _ _ _ => rfl) (fun A2 outer2 s2 H2 E2 f2 c2 hr2 => (pe_callR Gmf (hr2.mono (by omega)) (by rfl) T.gmake_fact T.fmake_fact.kp (passes_call (takes_of rfl rfl rfl rfl) (fun _ _ _ _ h => h)) (pa_cons (pe_tup (pa_cons (pv 4) (pa_cons (pv 5) pa_nil))) (pa_cons (pe_lst (pa_cons (pv 5) (pa_cons (pe_tup (pa_cons pe_str pa_nil)) pa_nil))) pa_nil)))) wdF fun G E Q e q => mf_F (C.ext e) (mv_cons (mv_tup (mv_cons vL (mv_cons vM mv_nil)) (by show 2 ≤ sizeLine; decide)) (mv_cons (mv_lst (mv_cons vM (mv_cons (mv_tup (mv_cons (mv_of (mk_str _)) mv_nil) (by show 1 ≤ sizeLine; decide)) mv_nil)) (by show 2 ≤ sizeLine; decide)) mv_nil)) (by decide +kernel) (by decide +kernel) (by decide) (.inl (by decide +kernel)) q)
      (.cons (tells_raise (X := Zr P w K mg base T.a_law_case_right cdv A outer s H E) (T := T) (k := 8) (lamS_by (sc := defScope s__law_case_right) (by decide +kernel)) (fun _ _ _ _ _ => rfl) (fun A2 outer2 s2 H2 E2 f2 c2 hr2 => (pe_callKw Gfn (hr2.mono (by omega)) (by rfl) T.gfact_renamed T.ffact_renamed.kp (passes_call (takes_of rfl rfl rfl rfl) (fun _ _ _ _ h => h)) (pa_cons (pv 2) pa_nil) (pk_cons pe_str pk_nil))) wdF fun G E Q e q => kw_F (C.ext e) vB nb.sm nb.f q)
      (.cons (tells_raise (X := Zr P w K mg base T.a_law_case_right cdv A outer s H E) (T := T) (k := 8) (lamS_by (sc := defScope s__law_case_right) (by decide +kernel)) (fun _ _ _ _ _ => rfl) (fun A2 outer2 s2 H2 E2 f2 c2 hr2 => (pe_call Gpl (hr2.mono (by omega)) (by rfl) T.gplaces_in T.fplaces_in.kp T.nplaces_in .nil (passes_call (takes_of rfl rfl rfl rfl) (fun _ _ _ _ h => h)) (pa_cons (pv 2) pa_nil))) wdF fun G E Q e q => bad_F (C.ext e) (mv_cons vB mv_nil) nb.sm nb.f q)
      (.cons (tells_raise (X := Zr P w K mg base T.a_law_case_right cdv A outer s H E) (T := T) (k := 8) (lamS_by (sc := defScope s__law_case_right) (by decide +kernel)) (fun _ _ _ _ _ => rfl) (fun A2 outer2 s2 H2 E2 f2 c2 hr2 => (pe_call Gto (hr2.mono (by omega)) (by rfl) T.gterms_of T.fterms_of.kp T.nterms_of .nil (passes_call (takes_of rfl rfl rfl rfl) (fun _ _ _ _ h => h)) (pa_cons (pv 2) pa_nil))) wdF fun G E Q e q => bad_F (C.ext e) (mv_cons vB mv_nil) nb.sm nb.f q)
      (.cons (tells_raise (X := Zr P w K mg base T.a_law_case_right cdv A outer s H E) (T := T) (k := 8) (lamS_by (sc := defScope s__law_case_right) (by decide +kernel)) (fun _ _ _ _ _ => rfl) (fun A2 outer2 s2 H2 E2 f2 c2 hr2 => (pe_call Gno (hr2.mono (by omega)) (by rfl) T.gnodes_of T.fnodes_of.kp T.nnodes_of .nil (passes_call (takes_of rfl rfl rfl rfl) (fun _ _ _ _ h => h)) (pa_cons (pv 2) pa_nil))) wdF fun G E Q e q => bad_F (C.ext e) (mv_cons vB mv_nil) nb.sm nb.f q)
      (.cons (tells_raise (X := Zr P w K mg base T.a_law_case_right cdv A outer s H E) (T := T) (k := 8) (lamS_by (sc := defScope s__law_case_right) (by decide +kernel)) (fun _ _ _ _ _ => rfl) (fun A2 outer2 s2 H2 E2 f2 c2 hr2 => (pe_call Gcu (hr2.mono (by omega)) (by rfl) T.gcut T.fcut.kp T.ncut .nil (passes_call (takes_of rfl rfl rfl rfl) (fun _ _ _ _ h => h)) (pa_cons (pv 2) (pa_cons (pv 3) pa_nil)))) wdF fun G E Q e q => cut_F (C.ext e) (mv_cons vB (mv_cons vF mv_nil)) nb.sm smF (.inl (by rw [nb.f]; rfl)) q)
      (.cons (tells_raise (X := Zr P w K mg base T.a_law_case_right cdv A outer s H E) (T := T) (k := 8) (lamS_by (sc := defScope s__law_case_right) (by decide +kernel)) (fun _ _ _ _ _ => rfl) (fun A2 outer2 s2 H2 E2 f2 c2 hr2 => (pe_call Gcu (hr2.mono (by omega)) (by rfl) T.gcut T.fcut.kp T.ncut .nil (passes_call (takes_of rfl rfl rfl rfl) (fun _ _ _ _ h => h)) (pa_cons (pv 3) (pa_cons (pv 2) pa_nil)))) wdF fun G E Q e q => cut_F (C.ext e) (mv_cons vF (mv_cons vB mv_nil)) smF nb.sm (.inl (by rw [nb.f, Bool.and_false])) q)
      (.cons (tells_raise (X := Zr P w K mg base T.a_law_case_right cdv A outer s H E) (T := T) (k := 8) (lamS_by (sc := defScope s__law_case_right) (by decide +kernel)) (fun _ _ _ _ _ => rfl) (fun A2 outer2 s2 H2 E2 f2 c2 hr2 => (pe_call Gch (hr2.mono (by omega)) (by rfl) T.gchanged T.fchanged.kp T.nchanged .nil (passes_call (takes_of rfl rfl rfl rfl) (fun _ _ _ _ h => h)) (pa_cons (pv 2) (pa_cons (pv 6) (pa_cons (pv 6) pa_nil))))) wdF fun G E Q e q => ch_F (C.ext e) (mv_cons vB (mv_cons vO (mv_cons vO mv_nil))) nb.sm no.sm no.sm nb.f q)
      (.cons (tells_raise (X := Zr P w K mg base T.a_law_case_right cdv A outer s H E) (T := T) (k := 8) (lamS_by (sc := defScope s__law_case_right) (by decide +kernel)) (fun _ _ _ _ _ => rfl) (fun A2 outer2 s2 H2 E2 f2 c2 hr2 => (pe_call Gfr (hr2.mono (by omega)) (by rfl) T.gfact_renamed_by T.ffact_renamed_by.kp T.nfact_renamed_by .nil (passes_call (takes_of rfl rfl rfl rfl) (fun _ _ _ _ h => h)) (pa_cons (pv 2) (pa_cons (pv 6) pa_nil)))) wdF fun G E Q e q => fr_F (C.ext e) (mv_cons vB (mv_cons vO mv_nil)) nb.sm nb.f q)
      (.cons (tells_raise (X := Zr P w K mg base T.a_law_case_right cdv A outer s H E) (T := T) (k := 8) (lamS_by (sc := defScope s__law_case_right) (by decide +kernel)) (fun _ _ _ _ _ => rfl) (fun A2 outer2 s2 H2 E2 f2 c2 hr2 => (pe_call Gtx (hr2.mono (by omega)) (by rfl) T.gfact_text T.ffact_text.kp T.nfact_text .nil (passes_call (takes_of rfl rfl rfl rfl) (fun _ _ _ _ h => h)) (pa_cons (pv 2) pa_nil))) wdF fun G E Q e q => bad_F (C.ext e) (mv_cons vB mv_nil) nb.sm nb.f q)
      (.nil))))))))))))))))))))) fun pb H8 s8 e8 => ?_
    refine ne_words e8 (mkw_rep "fact" 20 (by decide)) (by decide +kernel) fun H9 s9 => ⟨_, rfl, iteF ?_⟩
    clear C
    have e79 : ExtN H7 H9 := Lb20.ext.trans (ext_sm (s8.trans s9))
    have t9 := Lb20.tabs.ext (s8.trans s9)
    have C9 := fun y c w => (C7 y c w).ext e79
    refine asg_lay t9 fun ld Gd1 Ld1 => ?_
    refine app_lay rfl Ld1 (by decide) fun Gd2 Ld2 => ?_

    have C := C9 (some (.ref a)) (some (.ref ld)) none
    refine errs_lay rfl Ld2 (.cons (tells_raise (X := Zr P w K mg base T.a_law_case_right cdv A outer s H E) (T := T) (k := 8) (lamS_by (sc := defScope s__law_case_right) (by decide +kernel)) (fun _ _ _ _ _ => rfl) (fun A2 outer2 s2 H2 E2 f2 c2 hr2 => (pe_call Gch (hr2.mono (by omega)) (by rfl) T.gchanged T.fchanged.kp T.nchanged .nil (passes_call (takes_of rfl rfl rfl rfl) (fun _ _ _ _ h => h)) (pa_cons (pv 3) (pa_cons (pv 6) (pa_cons (pv 7) pa_nil))))) wdT fun G E Q e q => ch_T (C.ext e) (mv_cons vF (mv_cons vO (mv_cons vT mv_nil))) smF no.sm nt.sm (by decide +kernel) (by rw [no.t]; rfl) q)
      (.cons (tells_raise (X := Zr P w K mg base T.a_law_case_right cdv A outer s H E) (T := T) (k := 8) (lamS_by (sc := defScope s__law_case_right) (by decide +kernel)) (fun _ _ _ _ _ => rfl) (fun A2 outer2 s2 H2 E2 f2 c2 hr2 => (pe_call Gch (hr2.mono (by omega)) (by rfl) T.gchanged T.fchanged.kp T.nchanged .nil (passes_call (takes_of rfl rfl rfl rfl) (fun _ _ _ _ h => h)) (pa_cons (pv 3) (pa_cons (pv 4) (pa_cons (pv 6) pa_nil))))) wdT fun G E Q e q => ch_T (C.ext e) (mv_cons vF (mv_cons vL (mv_cons vO mv_nil))) smF smL no.sm (by decide +kernel) (by rw [no.t, Bool.and_false]) q)
      (.nil))) fun pd H10 s10 e10 => ?_
    refine ne_words e10 (mkw_rep "term" 2 (by decide)) (by decide +kernel) fun H11 s11 => ⟨_, rfl, iteF ?_⟩
    have e911 : ExtN H9 H11 := Ld2.ext.trans (ext_sm (s10.trans s11))
    have t11 := Ld2.tabs.ext (s10.trans s11)
    have C11 := fun y c w => (C9 y c w).ext e911
    have dxo11 : Dx K H11 xo do' := ((dxo.up k5).up OffS.all).ext (e57.trans (e79.trans e911))
    refine ⟨_, rfl, _, _, rfl, dxo11, no.s, Nat.le_trans no.z (by decide), fun H12 s12 => ?_⟩
    rw [no.p]
    refine ⟨_, _, rfl, rfl, _, rfl, iteF ?_⟩
    refine ⟨_, rfl, _, _, rfl, dxo11.up s12, no.s, Nat.le_trans no.z (by decide), few_of no.w, fun H13 s13 => ?_⟩
    rw [no.f]
    refine ⟨_, _, rfl, rfl, _, rfl, iteF ?_⟩
    have e513 : ExtN H5 H13 := e57.trans (e79.trans (e911.trans (ext_sm (s12.trans s13))))
    have hd13 := dice_ext hd5 e513
    have t13 := t11.ext (s12.trans s13)
    refine ⟨_, rfl, a, n + 3, [a], rfl, hd13, by omega, List.mem_singleton_self _, off_one hd13, fun xw H14 bt14 hd14 bw => ?_⟩
    have t14 := tabs_but t13 bt14 hd13
    have dxb14 : Dx K (OffS [a] H14) xb db := (dxb.ext (offs_ext e513)).up (offs_but bt14)
    have dxf14 : Dx K (OffS [a] H14) xf factC := ((df.up k5).ext (offs_ext e513)).up (offs_but bt14)
    refine ⟨_, rfl, _, _, rfl, dxb14.up OffS.all, nb.s, Nat.le_trans nb.z (by decide), few_of nb.w, fun H15 s15 => ?_⟩
    rw [nb.f]
    refine ⟨_, _, rfl, rfl, _, rfl, iteT ?_⟩
    have dxf15 : Dx K H15 xf factC := (dxf14.up OffS.all).up s15
    have bw15 : BadNm P w K H15 xw := (bw.up OffS.all).up s15
    refine err_lay (t14.ext s15) (tells_raise (X := Zr P w K mg base T.a_law_case_right cdv A outer s H E) (T := T) (k := 8) (lamS_by (sc := defScope s__law_case_right) (by decide +kernel)) (fun _ _ _ _ _ => rfl) (fun A2 outer2 s2 H2 E2 f2 c2 hr2 => (pe_call Gfr (hr2.mono (by omega)) (by rfl) T.gfact_renamed_by T.ffact_renamed_by.kp T.nfact_renamed_by .nil (passes_call (takes_of rfl rfl rfl rfl) (fun _ _ _ _ h => h)) (pa_cons (pv 3) (pa_cons (pv 8) pa_nil)))) wdN fun G E Q e q => ⟨_, rfl, _, rfl, xf, xw, factC, rfl, smF.fz (dxf15.ext e), .inr (.inl ⟨by decide +kernel, by decide +kernel, bw15.ext e, q⟩)⟩) fun H16 e16 t16 => ?_
    have b16 : Bt a H H16 := b5.trans ((Bt.ext e513).trans ((Bt.but bt14).trans ((Bt.same s15).trans (Bt.ext e16))))
    have hd16 := dice_ext (hd14.up s15) e16
    exact ⟨rfl, by rw [show decide (V.str "name" = V.str "name") = true from decide_eq_true rfl]; exact q _ b16 hd16 t16⟩
end
end K14
/-! The end of a law that makes lambdas, where no repr runs around it. -/
namespace Kx
open PySem PySem.Spec PyProof.Rows L2 LamX
/-- the script and the tables alone may stand -/
def OnlyT (cs : List (Addr × Addr)) (H : Hp) : Prop := ∀ b, H b = none ∨ (∃ p ∈ cs, b = p.2) ∨ ∃ o xs, H b = some (.frz o (.lst xs))
section
variable {P : Program} {w : World} {K : PySem.W.Frag} {mg mb : Str → Option Value} {k : Nat} {fa a : Addr} {fd : FuncData} {x : Str} {sp : Sp} {s₁ : Shared} {vs : List Value} {ns : List Int} {cs : List (Addr × Addr)}
/-- what is known of the makers' code objects where the law is called -/
structure Makers (K : PySem.W.Frag) (cs : List (Addr × Addr)) (h : Heap) : Prop where
  tab : ∀ p ∈ cs, h.get? p.2 = some { cls := .none, data := .fields #[] }
  out : ∀ p ∈ cs, K.lookup p.2 = none
  hd : ∀ p ∈ cs, PySem.W.CodeHd h p.1 p.2
/-- the builtins' module, as a maker asks for it -/
def BmAt (mg : Str → Option Value) (h : Heap) : Prop := ∃ (bm : Addr) (ob : Obj), mg "__builtins__" = some (.ref bm) ∧ bm ≠ builtinsNs ∧ h.get? bm = some ob ∧ ob.cls = .type "module" ∧ ob.dict = some builtinsNs ∧ ob.data = .plain
theorem law_fromT {H : Hp} (M : Makers K cs s₁.heap) (bmA : BmAt mg s₁.heap) (hH : ∀ p ∈ cs, H p.2 = some (.tbl #[])) (hO : OnlyT cs H) (hS : SqL K H a (ns.map V.int)) (hok : HOk P w H s₁.heap)
    (hA : ∀ b, H b ≠ none → b = a ∨ ∃ p ∈ cs, b = p.2) (hK : H a ≠ none → K.lookup a = none) (KX : K.In s₁.heap) (nsG : s₁.heap.Ns mainGlobals mg) (nsB : s₁.heap.Ns builtinsNs mb) (boot : ∀ x : Str, x ≠ "__name__" → mb x = bootBuiltins x) (lim : s₁.heap.NoLimit) (nog : s₁.gens = #[])
    (ha : s₁.heap.get? a = some { cls := .type "list", data := .seq vs.toArray }) (hr : Room k callerA)
    (F : ∀ base : Heap, K.In base → base.Ns mainGlobals mg → (∀ p ∈ cs, TabB base mg p.1 p.2) → FnG P w K mg base k fa fd [x] sp) (hbind : ∀ (s : Shared) (u : Value), BindsTo s fd ⟨[u], []⟩ [(x, u)])
    (hsp : sp [.ref a] H (fun v _ => v = .bl true) fun _ _ _ => False) :
    codeAny (model P w) callerA (.call (.ref fa) ⟨[.ref a], []⟩) (fun r s' => r = .ok (.ret (.bool true)) ∧ OldK s₁.heap s'.heap ∧ s'.os = s₁.os ∧ AllBare s'.gens) s₁ := by
  have hid : ∀ {b o}, s₁.heap.get? b = some o → H b = none → (hidT s₁.heap H).get? b = some o := fun e n => hidT_get e n
  -- what is neither a list nor an empty table is not tracked
  have off : ∀ {b : Addr} {o : Obj}, s₁.heap.get? b = some o → (∀ l n, o.data ≠ .seq l n) → o.data ≠ .fields #[] → H b = none := by
    intro b o e h1 h2
    cases q : H b with
    | none => rfl
    | some u =>
      rcases hA b (by simp [q]) with z | ⟨p, hp, z⟩
      · subst z
        rw [ha] at e
        cases e
        exact absurd rfl (h1 _ _)
      · subst z
        rw [M.tab p hp] at e
        cases e
        exact absurd rfl h2
  have offD : ∀ {b : Addr} {o : Obj} {es : Array DictEntry} {ep : Nat}, s₁.heap.get? b = some o → o.data = .dict es ep → H b = none := fun {b o es ep} e d => off e (fun l n z => by rw [d] at z; cases z) (fun z => by rw [d] at z; cases z)
  have ns_of : ∀ {b : Addr} {m : Str → Option Value}, s₁.heap.Ns b m → (hidT s₁.heap H).Ns b m := by
    rintro b m ⟨o, es, ep, e, d, r⟩
    exact ⟨o, es, ep, hid e (offD e d), d, r⟩
  have kin : K.In (hidT s₁.heap H) := by
    intro b o e
    refine hid (KX b o e) ?_
    cases q : H b with
    | none => rfl
    | some u =>
      rcases hA b (by simp [q]) with z | ⟨p, hp, z⟩
      · subst z
        rw [hK (by simp [q])] at e
        cases e
      · subst z
        rw [M.out p hp] at e
        cases e
  have md : Mod K mg (hidT s₁.heap H) := by
    obtain ⟨mc, h1, h2⟩ := lim
    exact ⟨kin, ns_of nsG, ⟨mb, ns_of nsB, boot⟩, mc, ns_of h1, h2⟩
  have notT : ∀ {b : Addr} {o : Obj}, s₁.heap.get? b = some o → o.data ≠ .fields #[] → ∀ p ∈ cs, b ≠ p.2 := fun {b o} e h p hp z => by
    rw [z, M.tab p hp] at e
    cases e
    exact h rfl
  have tb : ∀ p ∈ cs, TabB (hidT s₁.heap H) mg p.1 p.2 := by
    intro p hp
    constructor
    · obtain ⟨o, us, file, tf, flags, tg, inF, text, tt, c1, c2, c3, c4, c5⟩ := M.hd p hp
      refine ⟨o, us, file, tf, flags, tg, inF, text, tt, hid c1 (off c1 (fun l n z => ?_) fun z => ?_), c2, c3, c4, c5⟩
      · rw [c3] at z
        cases z
      · rw [c3] at z
        cases z
        simp at c4
    · obtain ⟨bm, ob, b1, b2, b3, b4, b5, b6⟩ := bmA
      refine ⟨bm, ob, b1, b2, fun z => ?_, notT b3 (by rw [b6]; exact fun z => nomatch z) p hp, hid b3 (off b3 (by rw [b6]; exact fun _ _ z => nomatch z) (by rw [b6]; exact fun z => nomatch z)), b4, b5, b6⟩
      obtain ⟨o, es, ep, e, d, _⟩ := nsG
      rw [z, e] at b3
      cases b3
      rw [d] at b6
      cases b6
    · obtain ⟨o, es, ep, e, d, _⟩ := nsG
      exact notT e (by rw [d]; exact fun z => nomatch z) p hp
  have e0 : Env0 P w K mg (hidT s₁.heap H) callerA [] s₁ H := ⟨rfl, md, fun b o e => of_hidT e, Nat.le_of_eq (hidT_size _ _), trivial, fun b hb => (nomatch (show b ∈ ([] : List Addr) from hb)), hok, .of_eq nog⟩
  refine codeAny_mono ((F _ kin (ns_of nsG) tb).run callerA [] s₁ H ⟨[.ref a], []⟩ [Value.ref a] [V.ref a] (fun v _ => v = .bl true) (fun _ _ _ => False) rfl hr e0 (hbind s₁ (.ref a)) (.cons rfl .nil) hsp) ?_
  intro r s' h
  rcases r with e | fl
  · exact h.elim
  rcases fl with _ | _ | _ | u
  · exact h.elim
  · exact h.elim
  · exact h.elim
  obtain ⟨v, H', os, bare, un, hok', r', q⟩ := h
  obtain rfl : v = .bl true := q
  obtain rfl : u = Value.bool true := r'
  have same : ∀ b o, (∀ p ∈ cs, b ≠ p.2) → s₁.heap.get? b = some o → s'.heap.get? b = some o := by
    intro b o nt e
    cases q : H b with
    | none => exact un.keep b o e q (fun z => (nomatch (show b ∈ ([] : List Addr) from z))) (fun z => nomatch z)
    | some u =>
      rcases hO b with z | ⟨p, hp, z⟩ | ⟨ob, xs, z⟩
      · rw [q] at z
        cases z
      · exact absurd z (nt p hp)
      · obtain ⟨e1, _⟩ := hok b _ z
        obtain ⟨e2, _⟩ := hok' b _ (un.frzs b ob _ z)
        rw [e] at e1
        cases e1
        exact e2
  have more : ∀ p ∈ cs, ∃ l : Array Value, s'.heap.get? p.2 = some { cls := .none, data := .fields l } := fun p hp => by
    obtain ⟨l, z⟩ := un.tbls p.2 #[] (hH p hp)
    exact ⟨_, hok' p.2 _ z⟩
  have cases2 : ∀ b : Addr, (∃ p ∈ cs, b = p.2) ∨ ∀ p ∈ cs, b ≠ p.2 := fun b => by
    by_cases h : ∃ p ∈ cs, b = p.2
    · exact .inl h
    · exact .inr fun p hp z => h ⟨p, hp, z⟩
  refine ⟨rfl, ⟨fun b o e => ?_, fun b o e => ?_⟩, os, bare⟩
  · rcases cases2 b with ⟨p, hp, z⟩ | nt
    · obtain ⟨l, hl⟩ := more p hp
      subst z
      rw [M.tab p hp] at e
      cases e
      exact .inr (.inl ⟨((M.hd p hp).tab (M.tab p hp)).isCodeTable, rfl, #[], l, rfl, by simpa using hl⟩)
    · exact .inl (same b o nt e)
  · rcases cases2 b with ⟨p, hp, z⟩ | nt
    · obtain ⟨l, hl⟩ := more p hp
      subst z
      exact ⟨_, hl⟩
    · exact ⟨o, same b o nt e⟩
theorem law_callT (M : Makers K cs s₁.heap) (bmA : BmAt mg s₁.heap) (KX : K.In s₁.heap) (nsG : s₁.heap.Ns mainGlobals mg) (nsB : s₁.heap.Ns builtinsNs mb) (boot : ∀ x : Str, x ≠ "__name__" → mb x = bootBuiltins x) (lim : s₁.heap.NoLimit) (nog : s₁.gens = #[])
    (ha : s₁.heap.get? a = some { cls := .type "list", data := .seq vs.toArray }) (hi : IntsAre vs ns) (hl : ns.length ≤ sizeLine) (hr : Room k callerA)
    (F : ∀ base : Heap, K.In base → base.Ns mainGlobals mg → (∀ p ∈ cs, TabB base mg p.1 p.2) → FnG P w K mg base k fa fd [x] sp) (hbind : ∀ (s : Shared) (u : Value), BindsTo s fd ⟨[u], []⟩ [(x, u)])
    (hsp : ∀ H : Hp, (∀ p ∈ cs, H p.2 = some (.tbl #[])) → SqL K H a (ns.map V.int) → sp [.ref a] H (fun v _ => v = .bl true) fun _ _ _ => False) :
    codeAny (model P w) callerA (.call (.ref fa) ⟨[.ref a], []⟩) (fun r s' => r = .ok (.ret (.bool true)) ∧ OldK s₁.heap s'.heap ∧ s'.os = s₁.os ∧ AllBare s'.gens) s₁ := by
  have rv := vals_ints hi
  have nv := hi.length
  have na : ∀ p ∈ cs, p.2 ≠ a := fun p hp z => by
    have q := M.tab p hp
    rw [z, ha] at q
    cases q
  let H0 : Hp := fun b => if b ∈ cs.map Prod.snd then some (.tbl #[]) else none
  have m_ : ∀ b, b ∈ cs.map Prod.snd ↔ ∃ p ∈ cs, b = p.2 := fun b => by
    rw [List.mem_map]
    exact ⟨fun ⟨p, hp, e⟩ => ⟨p, hp, e.symm⟩, fun ⟨p, hp, e⟩ => ⟨p, hp, e.symm⟩⟩
  have t0 : ∀ p ∈ cs, H0 p.2 = some (.tbl #[]) := fun p hp => if_pos ((m_ _).mpr ⟨p, hp, rfl⟩)
  have n0 : ∀ b, (¬ ∃ p ∈ cs, b = p.2) → H0 b = none := fun b h => if_neg fun z => h ((m_ b).mp z)
  have ok0 : ∀ p ∈ cs, ∀ H, ObjOk P w H s₁.heap p.2 (.tbl #[]) := fun p hp H => M.tab p hp
  cases hk : K.lookup a with
  | some o =>
    have e := KX a o hk
    rw [ha] at e
    cases e
    have S : SqL K H0 a (ns.map V.int) := .inr ⟨_, vs.toArray, _, hk, rfl, rfl, rfl, by rw [List.size_toArray, nv]; exact hl, by simpa using rv⟩
    have aT : ¬ ∃ p ∈ cs, a = p.2 := fun ⟨p, hp, z⟩ => na p hp z.symm
    refine law_fromT (H := H0) M bmA t0 (fun b => ?_) S (fun b u z => ?_) (fun b z => ?_) (fun z => absurd (n0 a aT) z) KX nsG nsB boot lim nog ha hr F hbind (hsp _ t0 S)
    · by_cases h : ∃ p ∈ cs, b = p.2
      · exact .inr (.inl h)
      · exact .inl (n0 b h)
    · by_cases h : ∃ p ∈ cs, b = p.2
      · obtain ⟨p, hp, rfl⟩ := h
        rw [t0 p hp] at z
        cases z
        exact ok0 p hp _
      · rw [n0 b h] at z
        cases z
    · by_cases h : ∃ p ∈ cs, b = p.2
      · exact .inr h
      · exact absurd (n0 b h) z
  | none =>
    let ob : Obj := { cls := .type "list", data := .seq vs.toArray }
    let H : Hp := fun b => if b = a then some (.frz ob (.lst (ns.map V.int))) else H0 b
    have at_ : H a = some (.frz ob (.lst (ns.map V.int))) := if_pos rfl
    have off : ∀ b, b ≠ a → H b = H0 b := fun b h => if_neg h
    have S : SqL K H a (ns.map V.int) := .inl (.inr ⟨ob, at_⟩)
    have t1 : ∀ p ∈ cs, H p.2 = some (.tbl #[]) := fun p hp => (off _ (na p hp)).trans (t0 p hp)
    refine law_fromT (H := H) M bmA t1 (fun b => ?_) S (fun b u z => ?_) (fun b z => ?_) (fun _ => hk) KX nsG nsB boot lim nog ha hr F hbind (hsp _ t1 S)
    · by_cases h : b = a
      · rw [h]
        exact .inr (.inr ⟨_, _, at_⟩)
      · rw [off b h]
        by_cases h2 : ∃ p ∈ cs, b = p.2
        · exact .inr (.inl h2)
        · exact .inl (n0 b h2)
    · by_cases h : b = a
      · subst h
        rw [at_] at z
        cases z
        exact ⟨ha, by rw [List.length_map]; exact hl, vs, _, rv, ha⟩
      · rw [off b h] at z
        by_cases h2 : ∃ p ∈ cs, b = p.2
        · obtain ⟨p, hp, rfl⟩ := h2
          rw [t0 p hp] at z
          cases z
          exact ok0 p hp _
        · rw [n0 b h2] at z
          cases z
    · by_cases h : b = a
      · exact .inl h
      · rw [off b h] at z
        by_cases h2 : ∃ p ∈ cs, b = p.2
        · exact .inr h2
        · exact absurd (n0 b h2) z
end
/-- as walk_ofG, for a law that makes lambdas -/
theorem walk_ofT {l : PySem.W.OpenLaw} {n k : Nat} {q : Program} {loose : List Str} {XP : (Str → Option Value) → Heap → Prop} {YP : World → Heap → Prop} {d : DefRec} {K : Params → PySem.W.Frag} {sp : World → Sp} {x : Str} {cs : List (Addr × Addr)}
    (hn : l.most = some n) (hn2 : n ≤ sizeLine) (hdf : d.params.defaults = []) (hr : Room k callerA) (hY : ∀ (w : World) (h : Heap), YP w h → (K w.params).In h) (hM : ∀ (w : World) (h : Heap), YP w h → Makers (K w.params) cs h)
    (F : ∀ (w : World) (mg : Str → Option Value) (fa : Addr) (h : Heap), (K w.params).In h → h.Ns mainGlobals mg → mg d.name = some (.ref fa) →
      ∃ fd : FuncData, (∀ (s : Shared) (u : Value), BindsTo s fd ⟨[u], []⟩ [(x, u)]) ∧ ∀ base : Heap, (K w.params).In base → base.Ns mainGlobals mg → (∀ p ∈ cs, TabB base mg p.1 p.2) → FnG l.prog w (K w.params) mg base k fa fd [x] (sp w))
    (hsp : ∀ (w : World) (H : Hp) (a : Addr) (ns : List Int), ns.length ≤ n → (∀ p ∈ cs, H p.2 = some (.tbl #[])) → SqL (K w.params) H a (ns.map V.int) → sp w [.ref a] H (fun v _ => v = .bl true) fun _ _ _ => False) :
    PySem.W.WalkO q loose XP YP l.row.toRowW d [] (fun f vs => PySem.call f vs) := by
  refine Att.attach_call hn hdf ?_
  intro w s₀ s₁ mg mb fa o pm cd doc a vs ns G Y ho hd hcd hmg hobj hints hlen hg
  have KX := hY w _ Y
  obtain ⟨fd, hb, hF⟩ := F w mg fa _ KX G.T.g hmg
  exact law_callT (hM w _ Y) G.T.bmain KX G.T.g G.T.b G.T.builtins G.T.nolimit hg hobj hints (Nat.le_trans hlen hn2) hr hF hb fun H hT hS => hsp w H a ns hlen hT hS
end Kx
/-! The law of k14. -/
namespace K14
open PySem PySem.Spec PyProof.Rows L2 Kx LamX
def topC : PyData := .tuple [.str "c"]
section
variable {P : Program} {w : World} {K : PySem.W.Frag} {S : List Addr} {ρ : List (Nat × PyData)} {σ : L2.St} {G : Hp} {Q : VK} {E : XK} {d : PyData} {CT CO CF CN : Addr} {i : Nat}
def strT (m : List (Str × Str)) : List (TE × TE) := m.map fun p => (tC (.str p.1), tC (.str p.2))
theorem pairs_str : ∀ {m : List (Str × Str)} {H : Hp} {R : List (V × V) → Hp → Prop}, R (m.map fun p => (.str p.1, .str p.2)) H → tPairs (strT m) σ H R
  | [], _, _, h => h
  | p :: m, H, R, h => pairs_str (m := m) (R := fun ps H' => R ((.str p.1, .str p.2) :: ps) H') h
theorem call1 {sp : Sp} {te : TE} {ta : TA} (c : Ctx K S ρ σ G) (v : MakesV K S ρ te d) (h : ∀ x H', Same G H' → Dx K (OffS S H') x d → ta σ H' fun xs H2 => sp (x :: (xs ++ [])) H2 Q E) : tCall sp [] E (tCons te ta) σ G Q := v σ G _ c.old c.lc fun x G1 s1 dx => h x G1 s1 dx
instance {m : List (Str × Str)} {ns : List Str} : Decidable (ApL m ns) := by unfold ApL; infer_instance
theorem fr_D {m : List (Str × Str)} (c : Ctx K S ρ σ G) (v : MakesV K S ρ (tVar i) d) (sd : Sm d) (td : factD d = true) (hp : ∀ a, a ∈ sidesD (prsD d) → (preD a).length ≤ 100000) (hme : mergeK [] (m.map fun p => ((.inr p.1 : Key), V.str p.2)) = strD m) (few : m.length ≤ 15) (hm : ∀ p, p ∈ m → isNm p.1 = true ∧ isNm p.2 = true) (nm : (m.map Prod.fst).Nodup)
    (h : (¬ ApL m (namesL (sidesD (prsD d))) ∧ ∀ H', Same G H' → E (.ref CO) none H') ∨ (ApL m (namesL (sidesD (prsD d))) ∧ couplesD ((prsD d).map (renC (nmOf m))) = true ∧ szAll ((prsD d).map (renC (nmOf m))) ≤ 10000 ∧ True ∧ ∀ y H', Same G H' → Q y H')) :
    tCall (spFr P w K CF CN CO) [] E (tCons (tVar i) (tCons (tDisp (strT m)) tNil)) σ G Q := by
  refine call1 c v fun x G1 s1 dx => ?_
  refine fun p np => ?_
  refine pairs_str (m := m) ?_
  refine ⟨upd_same, m.map (fun p => ((.inr p.1 : Key), V.str p.2)), by rw [List.map_map]; rfl, by rw [List.length_map]; exact few, ?_⟩
  rw [hme, upd_upd]
  have s2 := same_put (o := .dK (strD m)) np
  have s12 := s1.trans s2
  refine ⟨x, .ref p, d, rfl, sd.fz ((dx.up OffS.all).up s2), .inr (.inr ⟨td, sd.z, p, m, rfl, upd_same, fun a b hab => hm _ hab, nm, by omega, ?_⟩)⟩
  rcases h with ⟨h, q⟩ | ⟨h1, h2, h3, _, q⟩
  · exact .inl ⟨h, fun H' s => q H' (s12.trans s)⟩
  · exact .inr ⟨h1, h2, h3, hp, fun y H' s => q y H' (s12.trans s)⟩
theorem kw_O {y : Str} (c : Ctx K S ρ σ G) (m : MakesV K S ρ (tVar i) d) (sd : Sm d) (td : factD d = true) (hy : isNm y = true) (h : ¬ ApL [("a", y)] (namesL (sidesD (prsD d)))) (_ : True) (q : ∀ G', Same G G' → E (.ref CO) none G') :
    (fun σ H Q => tCons (tVar i) tNil σ H fun vs H1 => tCons (tC (.str y)) tNil σ H1 fun zs H2 => ∃ v, vs = [v] ∧ zs.length = [("a" : Str)].length ∧ ∀ d, H2 d = none → spFr P w K CF CN CO [v, .ref d] (upd H2 d (.dK (kwD ["a"] zs))) Q E : TE) σ G Q :=
  m σ G _ c.old c.lc fun x G1 s1 dx => ⟨x, rfl, rfl, fun p np => ⟨x, _, d, rfl, sd.fz ((dx.up OffS.all).up (same_put np)), .inr (.inr ⟨td, sd.z, p, [("a", y)], rfl, upd_same, fun a b hab => by
    simp only [List.mem_singleton, Prod.mk.injEq] at hab
    obtain ⟨rfl, rfl⟩ := hab
    exact ⟨by decide +kernel, hy⟩, by simp, by show 1 ≤ 1000; decide, .inl ⟨h, fun G' s => q G' (s1.trans ((same_put np).trans s))⟩⟩)⟩⟩
theorem kw_N {y : Str} (c : Ctx K S ρ σ G) (m : MakesV K S ρ (tVar i) d) (sd : Sm d) (td : factD d = true) (hy : isNm y = false) (ly : y.length ≤ 1000) (_ : True) (q : ∀ G', Same G G' → E (.ref CN) none G') :
    (fun σ H Q => tCons (tVar i) tNil σ H fun vs H1 => tCons (tC (.str y)) tNil σ H1 fun zs H2 => ∃ v, vs = [v] ∧ zs.length = [("a" : Str)].length ∧ ∀ d, H2 d = none → spFr P w K CF CN CO [v, .ref d] (upd H2 d (.dK (kwD ["a"] zs))) Q E : TE) σ G Q :=
  m σ G _ c.old c.lc fun x G1 s1 dx => ⟨x, rfl, rfl, fun p np => ⟨x, _, d, rfl, sd.fz ((dx.up OffS.all).up (same_put np)), .inr (.inl ⟨td, sd.z, .dic (es := [(.inr "a", .str y, .str y)]) upd_same (fun e he => by
    rw [List.mem_singleton.mp he]
    exact ⟨.str y, fun z hz => (by cases hz; decide), fun z hz => (by cases hz; exact ly)⟩) (by simp) (by show 1 ≤ 100; decide) (by simp [okEnt, nameD, hy]), fun G' s => q G' (s1.trans ((same_put np).trans s))⟩)⟩⟩
end
theorem lc_law {K : PySem.W.Frag} {H : Hp} {xf xl xm xt : V} (hf : Dx K (OffS [] H) xf factC) (hl : Dx K (OffS [] H) xl lowC) (hm : Dx K (OffS [] H) xm midC) (ht : Dx K (OffS [] H) xt topC) (y0 y1 y2 y3 c : Option V) :
    Lc K [] [(5, factC), (6, lowC), (7, midC), (8, topC)] [y0, y1, y2, y3, c, some xf, some xl, some xm, some xt] H := fun p hp => by
  simp only [List.mem_cons, List.not_mem_nil, or_false] at hp
  rcases hp with rfl | rfl | rfl | rfl
  · exact ⟨_, rfl, hf⟩
  · exact ⟨_, rfl, hl⟩
  · exact ⟨_, rfl, hm⟩
  · exact ⟨_, rfl, ht⟩
theorem lc_low {K : PySem.W.Frag} {H : Hp} {xl xm xt : V} (hl : Dx K (OffS [] H) xl lowC) (hm : Dx K (OffS [] H) xm midC) (ht : Dx K (OffS [] H) xt topC) (y0 y1 y2 y3 c c2 : Option V) :
    Lc K [] [(6, lowC), (7, midC), (8, topC)] [y0, y1, y2, y3, c, c2, some xl, some xm, some xt] H := fun p hp => by
  simp only [List.mem_cons, List.not_mem_nil, or_false] at hp
  rcases hp with rfl | rfl | rfl
  · exact ⟨_, rfl, hl⟩
  · exact ⟨_, rfl, hm⟩
  · exact ⟨_, rfl, ht⟩
theorem olds0 {H : Hp} : Olds [] H := fun b hb => by cases hb
section
variable {P : Program} {w : World} {K : PySem.W.Frag} {mg : Str → Option Value} {base : Heap}
abbrev Zl (P : Program) (w : World) (K : PySem.W.Frag) (mg : Str → Option Value) (base : Heap) (g : Addr) (cdg : Value) (A : Around) (outer : List Env) (s : Shared) (H : Hp) (E : XK) : Cx := (cxOf CX0 P w K mg base N_law "law" (defScope s_law) g cdg A outer s H E).nox
def spLaw (K : PySem.W.Frag) (tabs : List (Addr × Str)) : Sp := fun vs H Q _ => ∃ (a : Addr) (ns : List Int), vs = [.ref a] ∧ SqL K H a (ns.map V.int) ∧ Tabs tabs H ∧ ∀ H', Q (.bl true) H'
theorem ok_law (T : Tx K mg) (Y : Ty T) (TBC : TabB base mg Y.cC Y.PC) (TB : TabB base mg Y.cL Y.PL) : FnOk P w K mg base CX0 20 T.alaw T.dlaw ["script"] (spLaw K Y.tb) := by
  have nd := sc_law.nd
  have Gd := ok_dice (P := P) (w := w) (base := base) T
  have Gc := ok_cr (P := P) (w := w) (base := base) T Y TBC
  have Ges := ok_errs (P := P) (w := w) (base := base) T Y.kn 9
  have Gmp := ok_mp (P := P) (w := w) (base := base) T
  have Gfn := ok_frn1 (P := P) (w := w) (base := base) T
  have Gfr := ok_fr (P := P) (w := w) (base := base) T
  have Gcu := ok_cut (P := P) (w := w) (base := base) T
  have Gch := ok_ch (P := P) (w := w) (base := base) T
  refine okC T.flaw sc_law (fun vs H Q E h => ?_) (fun cdv A outer s H vs Q E ecd hr h => ?_)
  · obtain ⟨a, ns, rfl, _⟩ := h
    rfl
  · obtain ⟨a, ns, rfl, hS, tt, q⟩ := h
    have ec : cdv = .ref Y.cL := by rw [← ecd, Y.codeL]
    refine ⟨_, (pss_cons (ps_for PassesOwn.never rfl (pi_range1 (by rfl) T.b_range (pa_cons (pe_callB (call_max2 rfl) (by rfl) T.b_max (by decide +kernel) (pa_cons pe_int (pa_cons (pe_callB (call_min2 rfl) (by rfl) T.b_min (by decide +kernel) (pa_cons pe_int (pa_cons (pe_callB call_len_seq (by rfl) T.b_len (by decide +kernel) (pa_cons (pv 0) pa_nil)) pa_nil))) pa_nil))) pa_nil)) (pg_name (i := 1) nd rfl (.inl rfl)) (pss_cons (ps_set (i := 2) nd rfl (.inl rfl) (pe_call Gd (hr.mono (by omega)) (by rfl) T.g_law_dice T.f_law_dice.kp T.n_law_dice .nil pass0 (pa_cons (pv 0) (pa_cons (pv 1) pa_nil))))
      (pss_one (ps_for PassesOwn.never rfl (pi_range1 (by rfl) T.b_range (pa_cons pe_int pa_nil)) (pg_name (i := 3) nd rfl (.inl rfl)) (pss_one (ps_if (pt_not (pt_val (pe_call Gc (hr.mono (by omega)) (by rfl) T.g_law_case_right T.f_law_case_right.kp T.n_law_case_right .nil pass0 (pa_cons (pv 2) pa_nil)))) (pss_one (ps_ret pe_bl)) pss_nil))))))
      (pss_cons (ps_asg (pe_tup (pa_cons (pe_tup (pa_cons pe_str pa_nil)) (pa_cons (pe_tup (pa_cons pe_str pa_nil)) (pa_cons (pe_tup (pa_cons pe_str pa_nil)) pa_nil)))) (pg_tup rfl (pgs_cons (pg_name (i := 6) nd rfl (.inr rfl)) (pgs_cons (pg_name (i := 7) nd rfl (.inr rfl)) (pgs_cons (pg_name (i := 8) nd rfl (.inr rfl)) pgs_nil)))))
      (pss_cons (ps_set (i := 5) nd rfl (.inr rfl) (pe_tup (pa_cons (pe_tup (pa_cons (pe_tup (pa_cons (pv 6) (pa_cons (pv 7) pa_nil))) pa_nil)) (pa_cons (pe_tup (pa_cons (pv 8) (pa_cons (pe_tup (pa_cons pe_str (pa_cons (pv 6) pa_nil))) pa_nil))) pa_nil))))
      (pss_cons (ps_set (i := 4) nd rfl (.inl rfl) (pe_lst (pa_cons (pe_lam TB ec Y.hL.1 Y.hL.2 (lamS_by (sc := defScope s_law) (by decide +kernel)) rfl) pa_nil)))
      (pss_cons (ps_expr (pe_bm PySem.F.plainAttrs_list PySem.F.slot_list_append PySem.F.type_list_append mt_append (pv 4) (pa_cons (pe_lam TB ec Y.hL.1 Y.hL.2 (lamS_by (sc := defScope s_law) (by decide +kernel)) rfl) pa_nil)))
      (pss_cons (ps_expr (pe_bm PySem.F.plainAttrs_list PySem.F.slot_list_append PySem.F.type_list_append mt_append (pv 4) (pa_cons (pe_lam TB ec Y.hL.1 Y.hL.2 (lamS_by (sc := defScope s_law) (by decide +kernel)) rfl) pa_nil)))
      (pss_cons (ps_expr (pe_bm PySem.F.plainAttrs_list PySem.F.slot_list_append PySem.F.type_list_append mt_append (pv 4) (pa_cons (pe_lam TB ec Y.hL.1 Y.hL.2 (lamS_by (sc := defScope s_law) (by decide +kernel)) rfl) pa_nil)))
      (pss_cons (ps_expr (pe_bm PySem.F.plainAttrs_list PySem.F.slot_list_append PySem.F.type_list_append mt_append (pv 4) (pa_cons (pe_lam TB ec Y.hL.1 Y.hL.2 (lamS_by (sc := defScope s_law) (by decide +kernel)) rfl) pa_nil)))
      (pss_cons (ps_expr (pe_bm PySem.F.plainAttrs_list PySem.F.slot_list_append PySem.F.type_list_append mt_append (pv 4) (pa_cons (pe_lam TB ec Y.hL.1 Y.hL.2 (lamS_by (sc := defScope s_law) (by decide +kernel)) rfl) pa_nil)))
      (pss_cons (ps_if (pt_cmpR (op_neF (room200 hr)) (pe_callM (fun _ => rfl) Ges (hr.mono (by omega)) (by rfl) T.g_law_errors T.f_law_errors.kp T.n_law_errors (pa_cons (pv 4) pa_nil)) (pe_op op_cat (pe_op op_cat (pe_op op_rep (pe_lst (pa_cons pe_str pa_nil)) pe_int) (pe_op op_rep (pe_lst (pa_cons pe_str pa_nil)) pe_int)) (pe_lst (pa_cons pe_str (pa_cons pe_str pa_nil)))) (nomark _)) (pss_one (ps_ret pe_bl)) pss_nil)
      (pss_cons (ps_set (i := 4) nd rfl (.inl rfl) (pe_lst (pa_cons (pe_lam TB ec Y.hL.1 Y.hL.2 (lamS_by (sc := defScope s_law) (by decide +kernel)) rfl) pa_nil)))
      (pss_cons (ps_expr (pe_bm PySem.F.plainAttrs_list PySem.F.slot_list_append PySem.F.type_list_append mt_append (pv 4) (pa_cons (pe_lam TB ec Y.hL.1 Y.hL.2 (lamS_by (sc := defScope s_law) (by decide +kernel)) rfl) pa_nil)))
      (pss_cons (ps_expr (pe_bm PySem.F.plainAttrs_list PySem.F.slot_list_append PySem.F.type_list_append mt_append (pv 4) (pa_cons (pe_lam TB ec Y.hL.1 Y.hL.2 (lamS_by (sc := defScope s_law) (by decide +kernel)) rfl) pa_nil)))
      (pss_cons (ps_expr (pe_bm PySem.F.plainAttrs_list PySem.F.slot_list_append PySem.F.type_list_append mt_append (pv 4) (pa_cons (pe_lam TB ec Y.hL.1 Y.hL.2 (lamS_by (sc := defScope s_law) (by decide +kernel)) rfl) pa_nil)))
      (pss_cons (ps_expr (pe_bm PySem.F.plainAttrs_list PySem.F.slot_list_append PySem.F.type_list_append mt_append (pv 4) (pa_cons (pe_lam TB ec Y.hL.1 Y.hL.2 (lamS_by (sc := defScope s_law) (by decide +kernel)) rfl) pa_nil)))
      (pss_cons (ps_expr (pe_bm PySem.F.plainAttrs_list PySem.F.slot_list_append PySem.F.type_list_append mt_append (pv 4) (pa_cons (pe_lam TB ec Y.hL.1 Y.hL.2 (lamS_by (sc := defScope s_law) (by decide +kernel)) rfl) pa_nil)))
      (pss_one (ps_ret (pe_cmpR (op_eqF (room200 hr)) (pe_callM (fun _ => rfl) Ges (hr.mono (by omega)) (by rfl) T.g_law_errors T.f_law_errors.kp T.n_law_errors (pa_cons (pv 4) pa_nil)) (pe_lst (pa_cons pe_str (pa_cons pe_str (pa_cons pe_str (pa_cons pe_str (pa_cons pe_str (pa_cons pe_str pa_nil))))))) (nomark _)))))))))))))))))))), ?_⟩
    have jb : ∀ n : Nat, 1 ≤ (if (if (n : Int) < 6 then (n : Int) else 6) > 1 then (if (n : Int) < 6 then (n : Int) else 6) else 1) ∧ (if (if (n : Int) < 6 then (n : Int) else 6) > 1 then (if (n : Int) < 6 then (n : Int) else 6) else 1) ≤ 6 := fun n => by
      split <;> split <;> omega
    obtain ⟨j1, j2⟩ := jb (ns.map V.int).length
    refine ⟨_, rfl, a, _, rfl, .inl hS, 6, _, rfl, 1, _, rfl, _, rfl, by omega, by omega, ?_⟩
    generalize (if (if (((ns.map V.int).length : Nat) : Int) < 6 then (((ns.map V.int).length : Nat) : Int) else 6) > 1 then (if (((ns.map V.int).length : Nat) : Int) < 6 then (((ns.map V.int).length : Nat) : Int) else 6) else 1) = j at j1 j2 ⊢
    refine for_range (fun i σ H' => ExtN H H' ∧ Tabs Y.tb H' ∧ ∃ y1 y2 y3, σ = [some (.ref a), y1, y2, y3, none, none, none, none, none]) ⟨ExtN.refl H, tt, none, none, none, rfl⟩ ?_ ?_
    · rintro i σ H1 hi ⟨s1, t1, y1, y2, y3, rfl⟩
      have hS1 : SqL K H1 a (ns.map V.int) := by
        rcases hS with (h | ⟨o, h⟩) | h
        · exact .inl (.inl (s1 _ _ h (fun ps e => nomatch e)))
        · exact .inl (.inr ⟨o, s1 _ _ h (fun ps e => nomatch e)⟩)
        · exact .inr h
      refine ⟨_, rfl, _, rfl, a, ns, i, ?_, hS1, by omega, fun H2 p s2 np d0 => ?_⟩
      · rw [Int.zero_add]
        rfl
      have t2 := t1.ext s2
      refine ⟨6, rfl, by decide, by decide, for_range (fun k σ G => Bt p H1 G ∧ Dice G p (0 + 4 * k) ∧ Tabs Y.tb G ∧ ∃ y1 y3, σ = [some (.ref a), y1, some (.ref p), y3, none, none, none, none, none]) ⟨.same s2, d0, t2, _, _, rfl⟩ ?_ ?_⟩
      · rintro k σ G1 hk ⟨bG, dG, tG, z1, z3, rfl⟩
        have hk : k < 6 := hk
        refine ⟨_, rfl, p, 0 + 4 * k, rfl, dG, by unfold cap; omega, tG, fun H4 b4 d4 t4 => ⟨_, rfl, iteF ?_⟩⟩
        exact ⟨bG.trans b4, d4.le (by omega), t4, _, _, rfl⟩
      · rintro σ G ⟨bG, dG, tG, z1, z3, rfl⟩
        refine ⟨fun b o h n => ?_, tG, _, _, _, rfl⟩
        have h1 := s1 b o h n
        have ne : b ≠ p := ne_of_none h1 np
        exact bG b o h1 ne n
    rintro σ H2 ⟨s2, t2, y1, y2, y3, rfl⟩
    refine asg2_mv (K := K) (S := []) (ρ := []) (mv_of (mk_tup (mk_cons (mk_tup (mk_cons (mk_str _) mk_nil)) (mk_cons (mk_tup (mk_cons (mk_str _) mk_nil)) (mk_cons (mk_tup (mk_cons (mk_str _) mk_nil)) mk_nil))))) olds0 (fun p hp => by cases hp) fun x1 H3 s3 d3 => ?_
    cases d3 with
    | @tup p _ _ hp dd =>
    obtain ⟨xl, xm, xt, rfl, dl, dm, dt⟩ := dx3 dd
    refine ⟨p, _, rfl, SqT.of (OffS.all _ _ hp), rfl, _, _, rfl, _, _, rfl, _, _, rfl, rfl, ?_⟩
    refine asg_mv (K := K) (S := []) (ρ := [(6, lowC), (7, midC), (8, topC)]) (mv_tup (mv_cons (mv_tup (mv_cons (mv_tup (mv_cons (mv_var (d := lowC) (by simp)) (mv_cons (mv_var (d := midC) (by simp)) mv_nil)) (by show 2 ≤ sizeLine; decide)) mv_nil) (by show 1 ≤ sizeLine; decide)) (mv_cons (mv_tup (mv_cons (mv_var (d := topC) (by simp)) (mv_cons (mv_tup (mv_cons (mv_of (mk_str _)) (mv_cons (mv_var (d := lowC) (by simp)) mv_nil)) (by show 2 ≤ sizeLine; decide)) mv_nil)) (by show 2 ≤ sizeLine; decide)) mv_nil)) (by show 2 ≤ sizeLine; decide)) (d := factC) olds0 (lc_low dl dm dt _ _ _ _ _ _) fun xf H5 s5 df => ?_
    have k5 : Same (OffS [] H3) (OffS [] H5) := OffS.same s5
    have C5 : ∀ c, Ctx K [] _ [some (.ref a), y1, y2, y3, c, some xf, some xl, some xm, some xt] H5 := fun c => ⟨lc_law df (dl.up k5) (dm.up k5) (dt.up k5) _ _ _ _ c, fun b hb => by cases hb⟩
    have t5 := t2.ext (s3.trans s5)
    have vF : MakesV K [] [(5, factC), (6, lowC), (7, midC), (8, topC)] (tVar 5) factC := mv_var (by simp)
    have vL : MakesV K [] [(5, factC), (6, lowC), (7, midC), (8, topC)] (tVar 6) lowC := mv_var (by simp)
    have vM : MakesV K [] [(5, factC), (6, lowC), (7, midC), (8, topC)] (tVar 7) midC := mv_var (by simp)
    have vT : MakesV K [] [(5, factC), (6, lowC), (7, midC), (8, topC)] (tVar 8) topC := mv_var (by simp)
    refine asg_lay t5 fun la Ga1 La1 => ?_
    refine app_lay rfl La1 (by decide) fun Ga2 La2 => ?_
    refine app_lay rfl La2 (by decide) fun Ga3 La3 => ?_
    refine app_lay rfl La3 (by decide) fun Ga4 La4 => ?_
    refine app_lay rfl La4 (by decide) fun Ga5 La5 => ?_
    refine app_lay rfl La5 (by decide) fun Ga6 La6 => ?_

    have C := C5 (some (.ref la))
    refine errs_lay rfl La6 (.cons (tells_raise (X := Zl P w K mg base T.alaw cdv A outer s H E) (T := T) (k := 8) (lamS_by (sc := defScope s_law) (by decide +kernel)) (fun _ _ _ _ _ => rfl) (fun A2 outer2 s2 H2 E2 f2 c2 hr2 => (pe_call Gfr (hr2.mono (by omega)) (by rfl) T.gfact_renamed_by T.ffact_renamed_by.kp T.nfact_renamed_by .nil (passes_call (takes_of rfl rfl rfl rfl) (fun _ _ _ _ h => h)) (pa_cons (pv 5) (pa_cons (pe_disp (pps_cons pe_str pe_str pps_nil) (by rfl) (by rfl) (fun z => by cases z) (by decide)) pa_nil)))) wdO fun G E Q e q => fr_D (C.ext e) vF smF (by decide +kernel) (by decide +kernel) (m := [("a", "f")]) rfl (by decide) (by decide +kernel) (by decide +kernel) (.inl ⟨by decide +kernel, q⟩))
      (.cons (tells_raise (X := Zl P w K mg base T.alaw cdv A outer s H E) (T := T) (k := 8) (lamS_by (sc := defScope s_law) (by decide +kernel)) (fun _ _ _ _ _ => rfl) (fun A2 outer2 s2 H2 E2 f2 c2 hr2 => (pe_call Gfr (hr2.mono (by omega)) (by rfl) T.gfact_renamed_by T.ffact_renamed_by.kp T.nfact_renamed_by .nil (passes_call (takes_of rfl rfl rfl rfl) (fun _ _ _ _ h => h)) (pa_cons (pv 5) (pa_cons (pe_disp (pps_cons pe_str pe_str pps_nil) (by rfl) (by rfl) (fun z => by cases z) (by decide)) pa_nil)))) wdO fun G E Q e q => fr_D (C.ext e) vF smF (by decide +kernel) (by decide +kernel) (m := [("a", "b")]) rfl (by decide) (by decide +kernel) (by decide +kernel) (.inl ⟨by decide +kernel, q⟩))
      (.cons (tells_fine (X := Zl P w K mg base T.alaw cdv A outer s H E) (T := T) (k := 8) (lamS_by (sc := defScope s_law) (by decide +kernel)) (fun _ _ _ _ _ => rfl) (fun A2 outer2 s2 H2 E2 f2 c2 hr2 => (pe_call Gfr (hr2.mono (by omega)) (by rfl) T.gfact_renamed_by T.ffact_renamed_by.kp T.nfact_renamed_by .nil (passes_call (takes_of rfl rfl rfl rfl) (fun _ _ _ _ h => h)) (pa_cons (pv 5) (pa_cons (pe_disp (pps_cons pe_str pe_str (pps_cons pe_str pe_str (pps_cons pe_str pe_str pps_nil))) (by rfl) (by rfl) (fun z => by cases z) (by decide)) pa_nil))))  fun G E Q e q => fr_D (C.ext e) vF smF (by decide +kernel) (by decide +kernel) (m := [("a", "c"), ("c", "a"), ("x", "b")]) rfl (by decide) (by decide +kernel) (by decide +kernel) (.inr ⟨by decide +kernel, by decide +kernel, by decide +kernel, by decide +kernel, fun y H s => q y H s⟩))
      (.cons (tells_fine (X := Zl P w K mg base T.alaw cdv A outer s H E) (T := T) (k := 8) (lamS_by (sc := defScope s_law) (by decide +kernel)) (fun _ _ _ _ _ => rfl) (fun A2 outer2 s2 H2 E2 f2 c2 hr2 => (pe_call Gfr (hr2.mono (by omega)) (by rfl) T.gfact_renamed_by T.ffact_renamed_by.kp T.nfact_renamed_by .nil (passes_call (takes_of rfl rfl rfl rfl) (fun _ _ _ _ h => h)) (pa_cons (pv 5) (pa_cons (pe_disp (pps_cons pe_str pe_str (pps_cons pe_str pe_str pps_nil)) (by rfl) (by rfl) (fun z => by cases z) (by decide)) pa_nil))))  fun G E Q e q => fr_D (C.ext e) vF smF (by decide +kernel) (by decide +kernel) (m := [("f", "a"), ("a", "f")]) rfl (by decide) (by decide +kernel) (by decide +kernel) (.inr ⟨by decide +kernel, by decide +kernel, by decide +kernel, by decide +kernel, fun y H s => q y H s⟩))
      (.cons (tells_raise (X := Zl P w K mg base T.alaw cdv A outer s H E) (T := T) (k := 8) (lamS_by (sc := defScope s_law) (by decide +kernel)) (fun _ _ _ _ _ => rfl) (fun A2 outer2 s2 H2 E2 f2 c2 hr2 => (pe_callKw Gfn (hr2.mono (by omega)) (by rfl) T.gfact_renamed T.ffact_renamed.kp (passes_call (takes_of rfl rfl rfl rfl) (fun _ _ _ _ h => h)) (pa_cons (pv 5) pa_nil) (pk_cons pe_str pk_nil))) wdO fun G E Q e q => kw_O (C.ext e) vF smF (by decide +kernel) (by decide +kernel) (by decide +kernel) (by decide +kernel) q)
      (.cons (tells_raise (X := Zl P w K mg base T.alaw cdv A outer s H E) (T := T) (k := 8) (lamS_by (sc := defScope s_law) (by decide +kernel)) (fun _ _ _ _ _ => rfl) (fun A2 outer2 s2 H2 E2 f2 c2 hr2 => (pe_callKw Gfn (hr2.mono (by omega)) (by rfl) T.gfact_renamed T.ffact_renamed.kp (passes_call (takes_of rfl rfl rfl rfl) (fun _ _ _ _ h => h)) (pa_cons (pv 5) pa_nil) (pk_cons pe_str pk_nil))) wdN fun G E Q e q => kw_N (C.ext e) vF smF (by decide +kernel) (by decide +kernel) (by decide) (by decide +kernel) q)
      (.nil))))))) fun pa H6 s6 e6 => ?_
    refine ne_words e6 (mkw_cat (mkw_cat (mkw_rep "operation" 2 (by decide)) (mkw_rep "none" 2 (by decide)) (by decide)) (mkw_lst (mkws_cons (mkws_cons mkws_nil)) (by decide)) (by decide)) (by decide +kernel) fun H7 s7 => ⟨_, rfl, iteF ?_⟩
    clear C
    have e57 : ExtN H5 H7 := La6.ext.trans (ext_sm (s6.trans s7))
    have t7 := La6.tabs.ext (s6.trans s7)
    have C7 := fun c => (C5 c).ext e57
    refine asg_lay t7 fun lb Gb1 Lb1 => ?_
    refine app_lay rfl Lb1 (by decide) fun Gb2 Lb2 => ?_
    refine app_lay rfl Lb2 (by decide) fun Gb3 Lb3 => ?_
    refine app_lay rfl Lb3 (by decide) fun Gb4 Lb4 => ?_
    refine app_lay rfl Lb4 (by decide) fun Gb5 Lb5 => ?_
    refine app_lay rfl Lb5 (by decide) fun Gb6 Lb6 => ?_

    have C := C7 (some (.ref lb))
    refine errs_lay rfl Lb6 (.cons (tells_raise (X := Zl P w K mg base T.alaw cdv A outer s H E) (T := T) (k := 8) (lamS_by (sc := defScope s_law) (by decide +kernel)) (fun _ _ _ _ _ => rfl) (fun A2 outer2 s2 H2 E2 f2 c2 hr2 => (pe_call Gch (hr2.mono (by omega)) (by rfl) T.gchanged T.fchanged.kp T.nchanged .nil (passes_call (takes_of rfl rfl rfl rfl) (fun _ _ _ _ h => h)) (pa_cons (pv 5) (pa_cons (pv 6) (pa_cons (pe_tup (pa_cons pe_str (pa_cons (pv 6) (pa_cons (pv 6) pa_nil)))) pa_nil))))) wdF fun G E Q e q => ch_C (C.ext e) (mv_cons vF (mv_cons vL (mv_cons (mv_tup (mv_cons (mv_of (mk_str _)) (mv_cons vL (mv_cons vL mv_nil))) (by show 3 ≤ sizeLine; decide)) mv_nil))) smF (sm_of (by decide +kernel)) (sm_of (by decide +kernel)) (by decide +kernel) (by decide +kernel) (by decide +kernel) (by decide +kernel) (by decide +kernel) (.inl ⟨by decide +kernel, q⟩))
      (.cons (tells_fine (X := Zl P w K mg base T.alaw cdv A outer s H E) (T := T) (k := 8) (lamS_by (sc := defScope s_law) (by decide +kernel)) (fun _ _ _ _ _ => rfl) (fun A2 outer2 s2 H2 E2 f2 c2 hr2 => (pe_call Gch (hr2.mono (by omega)) (by rfl) T.gchanged T.fchanged.kp T.nchanged .nil (passes_call (takes_of rfl rfl rfl rfl) (fun _ _ _ _ h => h)) (pa_cons (pv 5) (pa_cons (pe_tup (pa_cons pe_str (pa_cons (pv 6) pa_nil))) (pa_cons (pe_tup (pa_cons pe_str (pa_cons (pv 7) pa_nil))) pa_nil)))))  fun G E Q e q => ch_C (C.ext e) (mv_cons vF (mv_cons (mv_tup (mv_cons (mv_of (mk_str _)) (mv_cons vL mv_nil)) (by show 2 ≤ sizeLine; decide)) (mv_cons (mv_tup (mv_cons (mv_of (mk_str _)) (mv_cons vM mv_nil)) (by show 2 ≤ sizeLine; decide)) mv_nil))) smF (sm_of (by decide +kernel)) (sm_of (by decide +kernel)) (by decide +kernel) (by decide +kernel) (by decide +kernel) (by decide +kernel) (by decide +kernel) (.inr ⟨by decide +kernel, q⟩))
      (.cons (tells_fine (X := Zl P w K mg base T.alaw cdv A outer s H E) (T := T) (k := 8) (lamS_by (sc := defScope s_law) (by decide +kernel)) (fun _ _ _ _ _ => rfl) (fun A2 outer2 s2 H2 E2 f2 c2 hr2 => (pe_call Gch (hr2.mono (by omega)) (by rfl) T.gchanged T.fchanged.kp T.nchanged .nil (passes_call (takes_of rfl rfl rfl rfl) (fun _ _ _ _ h => h)) (pa_cons (pv 5) (pa_cons (pv 8) (pa_cons (pe_tup (pa_cons pe_str (pa_cons (pv 6) pa_nil))) pa_nil)))))  fun G E Q e q => ch_C (C.ext e) (mv_cons vF (mv_cons vT (mv_cons (mv_tup (mv_cons (mv_of (mk_str _)) (mv_cons vL mv_nil)) (by show 2 ≤ sizeLine; decide)) mv_nil))) smF (sm_of (by decide +kernel)) (sm_of (by decide +kernel)) (by decide +kernel) (by decide +kernel) (by decide +kernel) (by decide +kernel) (by decide +kernel) (.inr ⟨by decide +kernel, q⟩))
      (.cons (tells_raise (X := Zl P w K mg base T.alaw cdv A outer s H E) (T := T) (k := 8) (lamS_by (sc := defScope s_law) (by decide +kernel)) (fun _ _ _ _ _ => rfl) (fun A2 outer2 s2 H2 E2 f2 c2 hr2 => (pe_call Gcu (hr2.mono (by omega)) (by rfl) T.gcut T.fcut.kp T.ncut .nil (passes_call (takes_of rfl rfl rfl rfl) (fun _ _ _ _ h => h)) (pa_cons (pv 5) (pa_cons (pe_tup (pa_cons (pe_tup (pa_cons (pe_tup (pa_cons (pv 8) (pa_cons (pe_tup (pa_cons pe_str (pa_cons (pv 6) pa_nil))) pa_nil))) pa_nil)) (pa_cons (pe_tup (pa_cons (pv 6) (pa_cons (pe_tup (pa_cons pe_str (pa_cons (pv 7) pa_nil))) pa_nil))) pa_nil))) pa_nil)))) wdF fun G E Q e q => cut_F (C.ext e) (mv_cons vF (mv_cons (mv_tup (mv_cons (mv_tup (mv_cons (mv_tup (mv_cons vT (mv_cons (mv_tup (mv_cons (mv_of (mk_str _)) (mv_cons vL mv_nil)) (by show 2 ≤ sizeLine; decide)) mv_nil)) (by show 2 ≤ sizeLine; decide)) mv_nil) (by show 1 ≤ sizeLine; decide)) (mv_cons (mv_tup (mv_cons vL (mv_cons (mv_tup (mv_cons (mv_of (mk_str _)) (mv_cons vM mv_nil)) (by show 2 ≤ sizeLine; decide)) mv_nil)) (by show 2 ≤ sizeLine; decide)) mv_nil)) (by show 2 ≤ sizeLine; decide)) mv_nil)) smF (sm_of (by decide +kernel)) (.inr (by decide +kernel)) q)
      (.cons (tells_raise (X := Zl P w K mg base T.alaw cdv A outer s H E) (T := T) (k := 8) (lamS_by (sc := defScope s_law) (by decide +kernel)) (fun _ _ _ _ _ => rfl) (fun A2 outer2 s2 H2 E2 f2 c2 hr2 => (pe_call Gcu (hr2.mono (by omega)) (by rfl) T.gcut T.fcut.kp T.ncut .nil (passes_call (takes_of rfl rfl rfl rfl) (fun _ _ _ _ h => h)) (pa_cons (pv 5) (pa_cons (pe_tup (pa_cons (pe_tup pa_nil) (pa_cons (pe_tup (pa_cons (pe_tup (pa_cons pe_str pa_nil)) (pa_cons (pe_tup (pa_cons pe_str (pa_cons (pv 7) pa_nil))) pa_nil))) pa_nil))) pa_nil)))) wdF fun G E Q e q => cut_F (C.ext e) (mv_cons vF (mv_cons (mv_tup (mv_cons (mv_tup mv_nil (by show 0 ≤ sizeLine; decide)) (mv_cons (mv_tup (mv_cons (mv_tup (mv_cons (mv_of (mk_str _)) mv_nil) (by show 1 ≤ sizeLine; decide)) (mv_cons (mv_tup (mv_cons (mv_of (mk_str _)) (mv_cons vM mv_nil)) (by show 2 ≤ sizeLine; decide)) mv_nil)) (by show 2 ≤ sizeLine; decide)) mv_nil)) (by show 2 ≤ sizeLine; decide)) mv_nil)) smF (sm_of (by decide +kernel)) (.inr (by decide +kernel)) q)
      (.cons (tells_raise (X := Zl P w K mg base T.alaw cdv A outer s H E) (T := T) (k := 8) (lamS_by (sc := defScope s_law) (by decide +kernel)) (fun _ _ _ _ _ => rfl) (fun A2 outer2 s2 H2 E2 f2 c2 hr2 => (pe_call Gmp (hr2.mono (by omega)) (by rfl) T.gmake_pair T.fmake_pair.kp T.nmake_pair .nil (passes_call (takes_of rfl rfl rfl rfl) (fun _ _ _ _ h => h)) (pa_cons (pe_tup (pa_cons pe_str (pa_cons (pv 6) pa_nil))) (pa_cons (pe_tup (pa_cons pe_str (pa_cons (pv 6) (pa_cons (pv 6) pa_nil)))) pa_nil)))) wdF fun G E Q e q => mp_F (C.ext e) (mv_cons (mv_tup (mv_cons (mv_of (mk_str _)) (mv_cons vL mv_nil)) (by show 2 ≤ sizeLine; decide)) (mv_cons (mv_tup (mv_cons (mv_of (mk_str _)) (mv_cons vL (mv_cons vL mv_nil))) (by show 3 ≤ sizeLine; decide)) mv_nil)) (sm_of (by decide +kernel)) (sm_of (by decide +kernel)) (by decide +kernel) (by decide +kernel) (by decide +kernel) (by decide +kernel) q)
      (.nil))))))) fun pb H8 s8 e8 => ?_
    exact eq_words (σ := []) e8 (mkw_lst (mkws_cons (mkws_cons (mkws_cons (mkws_cons (mkws_cons (mkws_cons mkws_nil)))))) (by decide)) (by decide +kernel) fun H9 s9 => q H9
end
end K14
namespace K14
open PySem PySem.Spec PyProof.Rows L2 Kx LamX
theorem ok_lawG {P : Program} {w : World} {K : PySem.W.Frag} {mg : Str → Option Value} {base : Heap} (T : Tx K mg) (Y : Ty T) (TBC : TabB base mg Y.cC Y.PC) (TB : TabB base mg Y.cL Y.PL) : FnG P w K mg base 20 T.alaw T.dlaw ["script"] (spLaw K Y.tb) :=
  ⟨(ok_law (P := P) (w := w) T Y TBC TB).len, fun A outer s H args us vs Q E _ hr e0 hb r h => (ok_law T Y TBC TB).run A outer s H args us vs Q E hr e0 hb r h⟩
/-- what is said of the classes, by their addresses -/
structure KindsA (K : PySem.W.Frag) (CT CF CN CO CP : Addr) (cs : List Addr) : Prop where
  pT : PySem.W.exmOne K (.ref CT) (.ref CP) = some true
  pF : PySem.W.exmOne K (.ref CF) (.ref CP) = some true
  pN : PySem.W.exmOne K (.ref CN) (.ref CP) = some true
  pO : PySem.W.exmOne K (.ref CO) (.ref CP) = some true
  xT : ExcC K CT
  xF : ExcC K CF
  xN : ExcC K CN
  xO : ExcC K CO
  rT : row K cs CT = one 0
  rF : row K cs CF = one 1
  rN : row K cs CN = one 2
  rO : row K cs CO = one 3
theorem kinds_of {K : PySem.W.Frag} {mg : Str → Option Value} {CT CF CN CO CP : Addr} {cs : List Addr} (T : Tx K mg) (h : KindsA K CT CF CN CO CP cs) (e1 : T.CInvalidTerm = CT) (e2 : T.CInvalidFact = CF) (e3 : T.CInvalidName = CN) (e4 : T.CInvalidOperation = CO) (e5 : T.CPartError = CP) (e6 : cls T = cs) : Kinds T := by
  subst e1 e2 e3 e4 e5 e6
  exact ⟨⟨h.pT, h.xT, h.rT⟩, ⟨h.pF, h.xF, h.rF⟩, ⟨h.pN, h.xN, h.rN⟩, ⟨h.pO, h.xO, h.rO⟩⟩
end K14
open PySem PySem.Spec PyProof.Rows L2 Kx
theorem K14.tx_mk {K : PySem.W.Frag} {h : Heap} {mg : Str → Option Value} (X : K.In h) (G : h.Ns mainGlobals mg)
    {fpreorder : Addr} {odpreorder anpreorder : Option Addr} {slpreorder : Array (Option Value)} {ocpreorder kVpreorder dcpreorder pmpreorder cdpreorder ctpreorder : Value}
    {fwritten : Addr} {odwritten anwritten : Option Addr} {slwritten : Array (Option Value)} {ocwritten kVwritten dcwritten pmwritten cdwritten ctwritten : Value}
    {fnumbered : Addr} {odnumbered annumbered : Option Addr} {slnumbered : Array (Option Value)} {ocnumbered kVnumbered dcnumbered pmnumbered cdnumbered ctnumbered : Value}
    {fnumbered_rows : Addr} {odnumbered_rows annumbered_rows : Option Addr} {slnumbered_rows : Array (Option Value)} {ocnumbered_rows kVnumbered_rows dcnumbered_rows pmnumbered_rows cdnumbered_rows ctnumbered_rows : Value}
    {fsizes_of : Addr} {odsizes_of ansizes_of : Option Addr} {slsizes_of : Array (Option Value)} {ocsizes_of kVsizes_of dcsizes_of pmsizes_of cdsizes_of ctsizes_of : Value}
    {fput_in : Addr} {odput_in anput_in : Option Addr} {slput_in : Array (Option Value)} {ocput_in kVput_in dcput_in pmput_in cdput_in ctput_in : Value}
    {fwith_names : Addr} {odwith_names anwith_names : Option Addr} {slwith_names : Array (Option Value)} {ocwith_names kVwith_names dcwith_names pmwith_names cdwith_names ctwith_names : Value}
    {fascending : Addr} {odascending anascending : Option Addr} {slascending : Array (Option Value)} {ocascending kVascending dcascending pmascending cdascending ctascending : Value}
    {forder_of : Addr} {odorder_of anorder_of : Option Addr} {slorder_of : Array (Option Value)} {ocorder_of kVorder_of dcorder_of pmorder_of cdorder_of ctorder_of : Value}
    {forder_by_ranks : Addr} {odorder_by_ranks anorder_by_ranks : Option Addr} {slorder_by_ranks : Array (Option Value)} {ocorder_by_ranks kVorder_by_ranks dcorder_by_ranks pmorder_by_ranks cdorder_by_ranks ctorder_by_ranks : Value}
    {franked : Addr} {odranked anranked : Option Addr} {slranked : Array (Option Value)} {ocranked kVranked dcranked pmranked cdranked ctranked : Value}
    {fdense : Addr} {oddense andense : Option Addr} {sldense : Array (Option Value)} {ocdense kVdense dcdense pmdense cddense ctdense : Value}
    {fis_name : Addr} {odis_name anis_name : Option Addr} {slis_name : Array (Option Value)} {ocis_name kVis_name dcis_name pmis_name cdis_name ctis_name : Value}
    {fis_term : Addr} {odis_term anis_term : Option Addr} {slis_term : Array (Option Value)} {ocis_term kVis_term dcis_term pmis_term cdis_term ctis_term : Value}
    {fcheck_term : Addr} {odcheck_term ancheck_term : Option Addr} {slcheck_term : Array (Option Value)} {occheck_term kVcheck_term dccheck_term pmcheck_term cdcheck_term ctcheck_term : Value}
    {fcheck_renaming : Addr} {odcheck_renaming ancheck_renaming : Option Addr} {slcheck_renaming : Array (Option Value)} {occheck_renaming kVcheck_renaming dccheck_renaming pmcheck_renaming cdcheck_renaming ctcheck_renaming : Value}
    {fjoint_places : Addr} {odjoint_places anjoint_places : Option Addr} {sljoint_places : Array (Option Value)} {ocjoint_places kVjoint_places dcjoint_places pmjoint_places cdjoint_places ctjoint_places : Value}
    {fhas_form : Addr} {odhas_form anhas_form : Option Addr} {slhas_form : Array (Option Value)} {ochas_form kVhas_form dchas_form pmhas_form cdhas_form cthas_form : Value}
    {fby_name : Addr} {odby_name anby_name : Option Addr} {slby_name : Array (Option Value)} {ocby_name kVby_name dcby_name pmby_name cdby_name ctby_name : Value}
    {fis_pair : Addr} {odis_pair anis_pair : Option Addr} {slis_pair : Array (Option Value)} {ocis_pair kVis_pair dcis_pair pmis_pair cdis_pair ctis_pair : Value}
    {fis_fact : Addr} {odis_fact anis_fact : Option Addr} {slis_fact : Array (Option Value)} {ocis_fact kVis_fact dcis_fact pmis_fact cdis_fact ctis_fact : Value}
    {fmake_pair : Addr} {odmake_pair anmake_pair : Option Addr} {slmake_pair : Array (Option Value)} {ocmake_pair kVmake_pair dcmake_pair pmmake_pair cdmake_pair ctmake_pair : Value}
    {fmake_fact : Addr} {odmake_fact anmake_fact : Option Addr} {slmake_fact : Array (Option Value)} {ocmake_fact kVmake_fact dcmake_fact pmmake_fact cdmake_fact ctmake_fact : Value}
    {fplaces_in : Addr} {odplaces_in anplaces_in : Option Addr} {slplaces_in : Array (Option Value)} {ocplaces_in kVplaces_in dcplaces_in pmplaces_in cdplaces_in ctplaces_in : Value}
    {fterms_of : Addr} {odterms_of anterms_of : Option Addr} {slterms_of : Array (Option Value)} {octerms_of kVterms_of dcterms_of pmterms_of cdterms_of ctterms_of : Value}
    {fnodes_of : Addr} {odnodes_of annodes_of : Option Addr} {slnodes_of : Array (Option Value)} {ocnodes_of kVnodes_of dcnodes_of pmnodes_of cdnodes_of ctnodes_of : Value}
    {fcut : Addr} {odcut ancut : Option Addr} {slcut : Array (Option Value)} {occut kVcut dccut pmcut cdcut ctcut : Value}
    {fchanged : Addr} {odchanged anchanged : Option Addr} {slchanged : Array (Option Value)} {occhanged kVchanged dcchanged pmchanged cdchanged ctchanged : Value}
    {ffact_renamed : Addr} {odfact_renamed anfact_renamed : Option Addr} {slfact_renamed : Array (Option Value)} {ocfact_renamed kVfact_renamed dcfact_renamed pmfact_renamed cdfact_renamed ctfact_renamed : Value}
    {ffact_renamed_by : Addr} {odfact_renamed_by anfact_renamed_by : Option Addr} {slfact_renamed_by : Array (Option Value)} {ocfact_renamed_by kVfact_renamed_by dcfact_renamed_by pmfact_renamed_by cdfact_renamed_by ctfact_renamed_by : Value}
    {ffact_text : Addr} {odfact_text anfact_text : Option Addr} {slfact_text : Array (Option Value)} {ocfact_text kVfact_text dcfact_text pmfact_text cdfact_text ctfact_text : Value}
    {fcheck_fact : Addr} {odcheck_fact ancheck_fact : Option Addr} {slcheck_fact : Array (Option Value)} {occheck_fact kVcheck_fact dccheck_fact pmcheck_fact cdcheck_fact ctcheck_fact : Value}
    {fis_couple : Addr} {odis_couple anis_couple : Option Addr} {slis_couple : Array (Option Value)} {ocis_couple kVis_couple dcis_couple pmis_couple cdis_couple ctis_couple : Value}
    {fare_couples : Addr} {odare_couples anare_couples : Option Addr} {slare_couples : Array (Option Value)} {ocare_couples kVare_couples dcare_couples pmare_couples cdare_couples ctare_couples : Value}
    {fis_ordered : Addr} {odis_ordered anis_ordered : Option Addr} {slis_ordered : Array (Option Value)} {ocis_ordered kVis_ordered dcis_ordered pmis_ordered cdis_ordered ctis_ordered : Value}
    {fkey_of : Addr} {odkey_of ankey_of : Option Addr} {slkey_of : Array (Option Value)} {ockey_of kVkey_of dckey_of pmkey_of cdkey_of ctkey_of : Value}
    {fsides_of : Addr} {odsides_of ansides_of : Option Addr} {slsides_of : Array (Option Value)} {ocsides_of kVsides_of dcsides_of pmsides_of cdsides_of ctsides_of : Value}
    {fpairs_in : Addr} {odpairs_in anpairs_in : Option Addr} {slpairs_in : Array (Option Value)} {ocpairs_in kVpairs_in dcpairs_in pmpairs_in cdpairs_in ctpairs_in : Value}
    {fpairs_of : Addr} {odpairs_of anpairs_of : Option Addr} {slpairs_of : Array (Option Value)} {ocpairs_of kVpairs_of dcpairs_of pmpairs_of cdpairs_of ctpairs_of : Value}
    {ffact_of : Addr} {odfact_of anfact_of : Option Addr} {slfact_of : Array (Option Value)} {ocfact_of kVfact_of dcfact_of pmfact_of cdfact_of ctfact_of : Value}
    {fsays_nothing : Addr} {odsays_nothing ansays_nothing : Option Addr} {slsays_nothing : Array (Option Value)} {ocsays_nothing kVsays_nothing dcsays_nothing pmsays_nothing cdsays_nothing ctsays_nothing : Value}
    {f_law_dice : Addr} {od_law_dice an_law_dice : Option Addr} {sl_law_dice : Array (Option Value)} {oc_law_dice kV_law_dice dc_law_dice pm_law_dice cd_law_dice ct_law_dice : Value}
    {f_law_roll : Addr} {od_law_roll an_law_roll : Option Addr} {sl_law_roll : Array (Option Value)} {oc_law_roll kV_law_roll dc_law_roll pm_law_roll cd_law_roll ct_law_roll : Value}
    {f_law_pick : Addr} {od_law_pick an_law_pick : Option Addr} {sl_law_pick : Array (Option Value)} {oc_law_pick kV_law_pick dc_law_pick pm_law_pick cd_law_pick ct_law_pick : Value}
    {f_law_error : Addr} {od_law_error an_law_error : Option Addr} {sl_law_error : Array (Option Value)} {oc_law_error kV_law_error dc_law_error pm_law_error cd_law_error ct_law_error : Value}
    {f_law_no_term : Addr} {od_law_no_term an_law_no_term : Option Addr} {sl_law_no_term : Array (Option Value)} {oc_law_no_term kV_law_no_term dc_law_no_term pm_law_no_term cd_law_no_term ct_law_no_term : Value}
    {f_law_no_fact : Addr} {od_law_no_fact an_law_no_fact : Option Addr} {sl_law_no_fact : Array (Option Value)} {oc_law_no_fact kV_law_no_fact dc_law_no_fact pm_law_no_fact cd_law_no_fact ct_law_no_fact : Value}
    {f_law_no_names : Addr} {od_law_no_names an_law_no_names : Option Addr} {sl_law_no_names : Array (Option Value)} {oc_law_no_names kV_law_no_names dc_law_no_names pm_law_no_names cd_law_no_names ct_law_no_names : Value}
    {f_law_errors : Addr} {od_law_errors an_law_errors : Option Addr} {sl_law_errors : Array (Option Value)} {oc_law_errors kV_law_errors dc_law_errors pm_law_errors cd_law_errors ct_law_errors : Value}
    {f_law_case_right : Addr} {od_law_case_right an_law_case_right : Option Addr} {sl_law_case_right : Array (Option Value)} {oc_law_case_right kV_law_case_right dc_law_case_right pm_law_case_right cd_law_case_right ct_law_case_right : Value}
    {flaw : Addr} {odlaw anlaw : Option Addr} {sllaw : Array (Option Value)} {oclaw kVlaw dclaw pmlaw cdlaw ctlaw : Value}
    (apreorder : PySem.W.nsIn K mainGlobals "preorder" = some (some (.ref fpreorder))) (lpreorder : K.lookup fpreorder = some ⟨ocpreorder, odpreorder, .func (PySem.W.fnOf "preorder" "preorder" (defArgs K14.s_preorder) (defBody K14.s_preorder) (defScope K14.s_preorder) .none kVpreorder dcpreorder pmpreorder anpreorder cdpreorder ctpreorder), slpreorder⟩) (cpreorder : PySem.W.codeIn K cdpreorder "preorder" = true) (kpreorder : PySem.W.keepIn K (.ref fpreorder) = true)
    (awritten : PySem.W.nsIn K mainGlobals "written" = some (some (.ref fwritten))) (lwritten : K.lookup fwritten = some ⟨ocwritten, odwritten, .func (PySem.W.fnOf "written" "written" (defArgs K14.s_written) (defBody K14.s_written) (defScope K14.s_written) .none kVwritten dcwritten pmwritten anwritten cdwritten ctwritten), slwritten⟩) (cwritten : PySem.W.codeIn K cdwritten "written" = true) (kwritten : PySem.W.keepIn K (.ref fwritten) = true)
    (anumbered : PySem.W.nsIn K mainGlobals "numbered" = some (some (.ref fnumbered))) (lnumbered : K.lookup fnumbered = some ⟨ocnumbered, odnumbered, .func (PySem.W.fnOf "numbered" "numbered" (defArgs K14.s_numbered) (defBody K14.s_numbered) (defScope K14.s_numbered) .none kVnumbered dcnumbered pmnumbered annumbered cdnumbered ctnumbered), slnumbered⟩) (cnumbered : PySem.W.codeIn K cdnumbered "numbered" = true) (knumbered : PySem.W.keepIn K (.ref fnumbered) = true)
    (anumbered_rows : PySem.W.nsIn K mainGlobals "numbered_rows" = some (some (.ref fnumbered_rows))) (lnumbered_rows : K.lookup fnumbered_rows = some ⟨ocnumbered_rows, odnumbered_rows, .func (PySem.W.fnOf "numbered_rows" "numbered_rows" (defArgs K14.s_numbered_rows) (defBody K14.s_numbered_rows) (defScope K14.s_numbered_rows) .none kVnumbered_rows dcnumbered_rows pmnumbered_rows annumbered_rows cdnumbered_rows ctnumbered_rows), slnumbered_rows⟩) (cnumbered_rows : PySem.W.codeIn K cdnumbered_rows "numbered_rows" = true) (knumbered_rows : PySem.W.keepIn K (.ref fnumbered_rows) = true)
    (asizes_of : PySem.W.nsIn K mainGlobals "sizes_of" = some (some (.ref fsizes_of))) (lsizes_of : K.lookup fsizes_of = some ⟨ocsizes_of, odsizes_of, .func (PySem.W.fnOf "sizes_of" "sizes_of" (defArgs K14.s_sizes_of) (defBody K14.s_sizes_of) (defScope K14.s_sizes_of) .none kVsizes_of dcsizes_of pmsizes_of ansizes_of cdsizes_of ctsizes_of), slsizes_of⟩) (csizes_of : PySem.W.codeIn K cdsizes_of "sizes_of" = true) (ksizes_of : PySem.W.keepIn K (.ref fsizes_of) = true)
    (aput_in : PySem.W.nsIn K mainGlobals "put_in" = some (some (.ref fput_in))) (lput_in : K.lookup fput_in = some ⟨ocput_in, odput_in, .func (PySem.W.fnOf "put_in" "put_in" (defArgs K14.s_put_in) (defBody K14.s_put_in) (defScope K14.s_put_in) .none kVput_in dcput_in pmput_in anput_in cdput_in ctput_in), slput_in⟩) (cput_in : PySem.W.codeIn K cdput_in "put_in" = true) (kput_in : PySem.W.keepIn K (.ref fput_in) = true)
    (awith_names : PySem.W.nsIn K mainGlobals "with_names" = some (some (.ref fwith_names))) (lwith_names : K.lookup fwith_names = some ⟨ocwith_names, odwith_names, .func (PySem.W.fnOf "with_names" "with_names" (defArgs K14.s_with_names) (defBody K14.s_with_names) (defScope K14.s_with_names) .none kVwith_names dcwith_names pmwith_names anwith_names cdwith_names ctwith_names), slwith_names⟩) (cwith_names : PySem.W.codeIn K cdwith_names "with_names" = true) (kwith_names : PySem.W.keepIn K (.ref fwith_names) = true)
    (aascending : PySem.W.nsIn K mainGlobals "ascending" = some (some (.ref fascending))) (lascending : K.lookup fascending = some ⟨ocascending, odascending, .func (PySem.W.fnOf "ascending" "ascending" (defArgs K14.s_ascending) (defBody K14.s_ascending) (defScope K14.s_ascending) .none kVascending dcascending pmascending anascending cdascending ctascending), slascending⟩) (cascending : PySem.W.codeIn K cdascending "ascending" = true) (kascending : PySem.W.keepIn K (.ref fascending) = true)
    (aorder_of : PySem.W.nsIn K mainGlobals "order_of" = some (some (.ref forder_of))) (lorder_of : K.lookup forder_of = some ⟨ocorder_of, odorder_of, .func (PySem.W.fnOf "order_of" "order_of" (defArgs K14.s_order_of) (defBody K14.s_order_of) (defScope K14.s_order_of) .none kVorder_of dcorder_of pmorder_of anorder_of cdorder_of ctorder_of), slorder_of⟩) (corder_of : PySem.W.codeIn K cdorder_of "order_of" = true) (korder_of : PySem.W.keepIn K (.ref forder_of) = true)
    (aorder_by_ranks : PySem.W.nsIn K mainGlobals "order_by_ranks" = some (some (.ref forder_by_ranks))) (lorder_by_ranks : K.lookup forder_by_ranks = some ⟨ocorder_by_ranks, odorder_by_ranks, .func (PySem.W.fnOf "order_by_ranks" "order_by_ranks" (defArgs K14.s_order_by_ranks) (defBody K14.s_order_by_ranks) (defScope K14.s_order_by_ranks) .none kVorder_by_ranks dcorder_by_ranks pmorder_by_ranks anorder_by_ranks cdorder_by_ranks ctorder_by_ranks), slorder_by_ranks⟩) (corder_by_ranks : PySem.W.codeIn K cdorder_by_ranks "order_by_ranks" = true) (korder_by_ranks : PySem.W.keepIn K (.ref forder_by_ranks) = true)
    (aranked : PySem.W.nsIn K mainGlobals "ranked" = some (some (.ref franked))) (lranked : K.lookup franked = some ⟨ocranked, odranked, .func (PySem.W.fnOf "ranked" "ranked" (defArgs K14.s_ranked) (defBody K14.s_ranked) (defScope K14.s_ranked) .none kVranked dcranked pmranked anranked cdranked ctranked), slranked⟩) (cranked : PySem.W.codeIn K cdranked "ranked" = true) (kranked : PySem.W.keepIn K (.ref franked) = true)
    (adense : PySem.W.nsIn K mainGlobals "dense" = some (some (.ref fdense))) (ldense : K.lookup fdense = some ⟨ocdense, oddense, .func (PySem.W.fnOf "dense" "dense" (defArgs K14.s_dense) (defBody K14.s_dense) (defScope K14.s_dense) .none kVdense dcdense pmdense andense cddense ctdense), sldense⟩) (cdense : PySem.W.codeIn K cddense "dense" = true) (kdense : PySem.W.keepIn K (.ref fdense) = true)
    (ais_name : PySem.W.nsIn K mainGlobals "is_name" = some (some (.ref fis_name))) (lis_name : K.lookup fis_name = some ⟨ocis_name, odis_name, .func (PySem.W.fnOf "is_name" "is_name" (defArgs K14.s_is_name) (defBody K14.s_is_name) (defScope K14.s_is_name) .none kVis_name dcis_name pmis_name anis_name cdis_name ctis_name), slis_name⟩) (cis_name : PySem.W.codeIn K cdis_name "is_name" = true) (kis_name : PySem.W.keepIn K (.ref fis_name) = true)
    (ais_term : PySem.W.nsIn K mainGlobals "is_term" = some (some (.ref fis_term))) (lis_term : K.lookup fis_term = some ⟨ocis_term, odis_term, .func (PySem.W.fnOf "is_term" "is_term" (defArgs K14.s_is_term) (defBody K14.s_is_term) (defScope K14.s_is_term) .none kVis_term dcis_term pmis_term anis_term cdis_term ctis_term), slis_term⟩) (cis_term : PySem.W.codeIn K cdis_term "is_term" = true) (kis_term : PySem.W.keepIn K (.ref fis_term) = true)
    (acheck_term : PySem.W.nsIn K mainGlobals "check_term" = some (some (.ref fcheck_term))) (lcheck_term : K.lookup fcheck_term = some ⟨occheck_term, odcheck_term, .func (PySem.W.fnOf "check_term" "check_term" (defArgs K14.s_check_term) (defBody K14.s_check_term) (defScope K14.s_check_term) .none kVcheck_term dccheck_term pmcheck_term ancheck_term cdcheck_term ctcheck_term), slcheck_term⟩) (ccheck_term : PySem.W.codeIn K cdcheck_term "check_term" = true) (kcheck_term : PySem.W.keepIn K (.ref fcheck_term) = true)
    (acheck_renaming : PySem.W.nsIn K mainGlobals "check_renaming" = some (some (.ref fcheck_renaming))) (lcheck_renaming : K.lookup fcheck_renaming = some ⟨occheck_renaming, odcheck_renaming, .func (PySem.W.fnOf "check_renaming" "check_renaming" (defArgs K14.s_check_renaming) (defBody K14.s_check_renaming) (defScope K14.s_check_renaming) .none kVcheck_renaming dccheck_renaming pmcheck_renaming ancheck_renaming cdcheck_renaming ctcheck_renaming), slcheck_renaming⟩) (ccheck_renaming : PySem.W.codeIn K cdcheck_renaming "check_renaming" = true) (kcheck_renaming : PySem.W.keepIn K (.ref fcheck_renaming) = true)
    (ajoint_places : PySem.W.nsIn K mainGlobals "joint_places" = some (some (.ref fjoint_places))) (ljoint_places : K.lookup fjoint_places = some ⟨ocjoint_places, odjoint_places, .func (PySem.W.fnOf "joint_places" "joint_places" (defArgs K14.s_joint_places) (defBody K14.s_joint_places) (defScope K14.s_joint_places) .none kVjoint_places dcjoint_places pmjoint_places anjoint_places cdjoint_places ctjoint_places), sljoint_places⟩) (cjoint_places : PySem.W.codeIn K cdjoint_places "joint_places" = true) (kjoint_places : PySem.W.keepIn K (.ref fjoint_places) = true)
    (ahas_form : PySem.W.nsIn K mainGlobals "has_form" = some (some (.ref fhas_form))) (lhas_form : K.lookup fhas_form = some ⟨ochas_form, odhas_form, .func (PySem.W.fnOf "has_form" "has_form" (defArgs K14.s_has_form) (defBody K14.s_has_form) (defScope K14.s_has_form) .none kVhas_form dchas_form pmhas_form anhas_form cdhas_form cthas_form), slhas_form⟩) (chas_form : PySem.W.codeIn K cdhas_form "has_form" = true) (khas_form : PySem.W.keepIn K (.ref fhas_form) = true)
    (aby_name : PySem.W.nsIn K mainGlobals "by_name" = some (some (.ref fby_name))) (lby_name : K.lookup fby_name = some ⟨ocby_name, odby_name, .func (PySem.W.fnOf "by_name" "by_name" (defArgs K14.s_by_name) (defBody K14.s_by_name) (defScope K14.s_by_name) .none kVby_name dcby_name pmby_name anby_name cdby_name ctby_name), slby_name⟩) (cby_name : PySem.W.codeIn K cdby_name "by_name" = true) (kby_name : PySem.W.keepIn K (.ref fby_name) = true)
    (ais_pair : PySem.W.nsIn K mainGlobals "is_pair" = some (some (.ref fis_pair))) (lis_pair : K.lookup fis_pair = some ⟨ocis_pair, odis_pair, .func (PySem.W.fnOf "is_pair" "is_pair" (defArgs K14.s_is_pair) (defBody K14.s_is_pair) (defScope K14.s_is_pair) .none kVis_pair dcis_pair pmis_pair anis_pair cdis_pair ctis_pair), slis_pair⟩) (cis_pair : PySem.W.codeIn K cdis_pair "is_pair" = true) (kis_pair : PySem.W.keepIn K (.ref fis_pair) = true)
    (ais_fact : PySem.W.nsIn K mainGlobals "is_fact" = some (some (.ref fis_fact))) (lis_fact : K.lookup fis_fact = some ⟨ocis_fact, odis_fact, .func (PySem.W.fnOf "is_fact" "is_fact" (defArgs K14.s_is_fact) (defBody K14.s_is_fact) (defScope K14.s_is_fact) .none kVis_fact dcis_fact pmis_fact anis_fact cdis_fact ctis_fact), slis_fact⟩) (cis_fact : PySem.W.codeIn K cdis_fact "is_fact" = true) (kis_fact : PySem.W.keepIn K (.ref fis_fact) = true)
    (amake_pair : PySem.W.nsIn K mainGlobals "make_pair" = some (some (.ref fmake_pair))) (lmake_pair : K.lookup fmake_pair = some ⟨ocmake_pair, odmake_pair, .func (PySem.W.fnOf "make_pair" "make_pair" (defArgs K14.s_make_pair) (defBody K14.s_make_pair) (defScope K14.s_make_pair) .none kVmake_pair dcmake_pair pmmake_pair anmake_pair cdmake_pair ctmake_pair), slmake_pair⟩) (cmake_pair : PySem.W.codeIn K cdmake_pair "make_pair" = true) (kmake_pair : PySem.W.keepIn K (.ref fmake_pair) = true)
    (amake_fact : PySem.W.nsIn K mainGlobals "make_fact" = some (some (.ref fmake_fact))) (lmake_fact : K.lookup fmake_fact = some ⟨ocmake_fact, odmake_fact, .func (PySem.W.fnOf "make_fact" "make_fact" (defArgs K14.s_make_fact) (defBody K14.s_make_fact) (defScope K14.s_make_fact) .none kVmake_fact dcmake_fact pmmake_fact anmake_fact cdmake_fact ctmake_fact), slmake_fact⟩) (cmake_fact : PySem.W.codeIn K cdmake_fact "make_fact" = true) (kmake_fact : PySem.W.keepIn K (.ref fmake_fact) = true)
    (aplaces_in : PySem.W.nsIn K mainGlobals "places_in" = some (some (.ref fplaces_in))) (lplaces_in : K.lookup fplaces_in = some ⟨ocplaces_in, odplaces_in, .func (PySem.W.fnOf "places_in" "places_in" (defArgs K14.s_places_in) (defBody K14.s_places_in) (defScope K14.s_places_in) .none kVplaces_in dcplaces_in pmplaces_in anplaces_in cdplaces_in ctplaces_in), slplaces_in⟩) (cplaces_in : PySem.W.codeIn K cdplaces_in "places_in" = true) (kplaces_in : PySem.W.keepIn K (.ref fplaces_in) = true)
    (aterms_of : PySem.W.nsIn K mainGlobals "terms_of" = some (some (.ref fterms_of))) (lterms_of : K.lookup fterms_of = some ⟨octerms_of, odterms_of, .func (PySem.W.fnOf "terms_of" "terms_of" (defArgs K14.s_terms_of) (defBody K14.s_terms_of) (defScope K14.s_terms_of) .none kVterms_of dcterms_of pmterms_of anterms_of cdterms_of ctterms_of), slterms_of⟩) (cterms_of : PySem.W.codeIn K cdterms_of "terms_of" = true) (kterms_of : PySem.W.keepIn K (.ref fterms_of) = true)
    (anodes_of : PySem.W.nsIn K mainGlobals "nodes_of" = some (some (.ref fnodes_of))) (lnodes_of : K.lookup fnodes_of = some ⟨ocnodes_of, odnodes_of, .func (PySem.W.fnOf "nodes_of" "nodes_of" (defArgs K14.s_nodes_of) (defBody K14.s_nodes_of) (defScope K14.s_nodes_of) .none kVnodes_of dcnodes_of pmnodes_of annodes_of cdnodes_of ctnodes_of), slnodes_of⟩) (cnodes_of : PySem.W.codeIn K cdnodes_of "nodes_of" = true) (knodes_of : PySem.W.keepIn K (.ref fnodes_of) = true)
    (acut : PySem.W.nsIn K mainGlobals "cut" = some (some (.ref fcut))) (lcut : K.lookup fcut = some ⟨occut, odcut, .func (PySem.W.fnOf "cut" "cut" (defArgs K14.s_cut) (defBody K14.s_cut) (defScope K14.s_cut) .none kVcut dccut pmcut ancut cdcut ctcut), slcut⟩) (ccut : PySem.W.codeIn K cdcut "cut" = true) (kcut : PySem.W.keepIn K (.ref fcut) = true)
    (achanged : PySem.W.nsIn K mainGlobals "changed" = some (some (.ref fchanged))) (lchanged : K.lookup fchanged = some ⟨occhanged, odchanged, .func (PySem.W.fnOf "changed" "changed" (defArgs K14.s_changed) (defBody K14.s_changed) (defScope K14.s_changed) .none kVchanged dcchanged pmchanged anchanged cdchanged ctchanged), slchanged⟩) (cchanged : PySem.W.codeIn K cdchanged "changed" = true) (kchanged : PySem.W.keepIn K (.ref fchanged) = true)
    (afact_renamed : PySem.W.nsIn K mainGlobals "fact_renamed" = some (some (.ref ffact_renamed))) (lfact_renamed : K.lookup ffact_renamed = some ⟨ocfact_renamed, odfact_renamed, .func (PySem.W.fnOf "fact_renamed" "fact_renamed" (defArgs K14.s_fact_renamed) (defBody K14.s_fact_renamed) (defScope K14.s_fact_renamed) .none kVfact_renamed dcfact_renamed pmfact_renamed anfact_renamed cdfact_renamed ctfact_renamed), slfact_renamed⟩) (cfact_renamed : PySem.W.codeIn K cdfact_renamed "fact_renamed" = true) (kfact_renamed : PySem.W.keepIn K (.ref ffact_renamed) = true)
    (afact_renamed_by : PySem.W.nsIn K mainGlobals "fact_renamed_by" = some (some (.ref ffact_renamed_by))) (lfact_renamed_by : K.lookup ffact_renamed_by = some ⟨ocfact_renamed_by, odfact_renamed_by, .func (PySem.W.fnOf "fact_renamed_by" "fact_renamed_by" (defArgs K14.s_fact_renamed_by) (defBody K14.s_fact_renamed_by) (defScope K14.s_fact_renamed_by) .none kVfact_renamed_by dcfact_renamed_by pmfact_renamed_by anfact_renamed_by cdfact_renamed_by ctfact_renamed_by), slfact_renamed_by⟩) (cfact_renamed_by : PySem.W.codeIn K cdfact_renamed_by "fact_renamed_by" = true) (kfact_renamed_by : PySem.W.keepIn K (.ref ffact_renamed_by) = true)
    (afact_text : PySem.W.nsIn K mainGlobals "fact_text" = some (some (.ref ffact_text))) (lfact_text : K.lookup ffact_text = some ⟨ocfact_text, odfact_text, .func (PySem.W.fnOf "fact_text" "fact_text" (defArgs K14.s_fact_text) (defBody K14.s_fact_text) (defScope K14.s_fact_text) .none kVfact_text dcfact_text pmfact_text anfact_text cdfact_text ctfact_text), slfact_text⟩) (cfact_text : PySem.W.codeIn K cdfact_text "fact_text" = true) (kfact_text : PySem.W.keepIn K (.ref ffact_text) = true)
    (acheck_fact : PySem.W.nsIn K mainGlobals "check_fact" = some (some (.ref fcheck_fact))) (lcheck_fact : K.lookup fcheck_fact = some ⟨occheck_fact, odcheck_fact, .func (PySem.W.fnOf "check_fact" "check_fact" (defArgs K14.s_check_fact) (defBody K14.s_check_fact) (defScope K14.s_check_fact) .none kVcheck_fact dccheck_fact pmcheck_fact ancheck_fact cdcheck_fact ctcheck_fact), slcheck_fact⟩) (ccheck_fact : PySem.W.codeIn K cdcheck_fact "check_fact" = true) (kcheck_fact : PySem.W.keepIn K (.ref fcheck_fact) = true)
    (ais_couple : PySem.W.nsIn K mainGlobals "is_couple" = some (some (.ref fis_couple))) (lis_couple : K.lookup fis_couple = some ⟨ocis_couple, odis_couple, .func (PySem.W.fnOf "is_couple" "is_couple" (defArgs K14.s_is_couple) (defBody K14.s_is_couple) (defScope K14.s_is_couple) .none kVis_couple dcis_couple pmis_couple anis_couple cdis_couple ctis_couple), slis_couple⟩) (cis_couple : PySem.W.codeIn K cdis_couple "is_couple" = true) (kis_couple : PySem.W.keepIn K (.ref fis_couple) = true)
    (aare_couples : PySem.W.nsIn K mainGlobals "are_couples" = some (some (.ref fare_couples))) (lare_couples : K.lookup fare_couples = some ⟨ocare_couples, odare_couples, .func (PySem.W.fnOf "are_couples" "are_couples" (defArgs K14.s_are_couples) (defBody K14.s_are_couples) (defScope K14.s_are_couples) .none kVare_couples dcare_couples pmare_couples anare_couples cdare_couples ctare_couples), slare_couples⟩) (care_couples : PySem.W.codeIn K cdare_couples "are_couples" = true) (kare_couples : PySem.W.keepIn K (.ref fare_couples) = true)
    (ais_ordered : PySem.W.nsIn K mainGlobals "is_ordered" = some (some (.ref fis_ordered))) (lis_ordered : K.lookup fis_ordered = some ⟨ocis_ordered, odis_ordered, .func (PySem.W.fnOf "is_ordered" "is_ordered" (defArgs K14.s_is_ordered) (defBody K14.s_is_ordered) (defScope K14.s_is_ordered) .none kVis_ordered dcis_ordered pmis_ordered anis_ordered cdis_ordered ctis_ordered), slis_ordered⟩) (cis_ordered : PySem.W.codeIn K cdis_ordered "is_ordered" = true) (kis_ordered : PySem.W.keepIn K (.ref fis_ordered) = true)
    (akey_of : PySem.W.nsIn K mainGlobals "key_of" = some (some (.ref fkey_of))) (lkey_of : K.lookup fkey_of = some ⟨ockey_of, odkey_of, .func (PySem.W.fnOf "key_of" "key_of" (defArgs K14.s_key_of) (defBody K14.s_key_of) (defScope K14.s_key_of) .none kVkey_of dckey_of pmkey_of ankey_of cdkey_of ctkey_of), slkey_of⟩) (ckey_of : PySem.W.codeIn K cdkey_of "key_of" = true) (kkey_of : PySem.W.keepIn K (.ref fkey_of) = true)
    (asides_of : PySem.W.nsIn K mainGlobals "sides_of" = some (some (.ref fsides_of))) (lsides_of : K.lookup fsides_of = some ⟨ocsides_of, odsides_of, .func (PySem.W.fnOf "sides_of" "sides_of" (defArgs K14.s_sides_of) (defBody K14.s_sides_of) (defScope K14.s_sides_of) .none kVsides_of dcsides_of pmsides_of ansides_of cdsides_of ctsides_of), slsides_of⟩) (csides_of : PySem.W.codeIn K cdsides_of "sides_of" = true) (ksides_of : PySem.W.keepIn K (.ref fsides_of) = true)
    (apairs_in : PySem.W.nsIn K mainGlobals "pairs_in" = some (some (.ref fpairs_in))) (lpairs_in : K.lookup fpairs_in = some ⟨ocpairs_in, odpairs_in, .func (PySem.W.fnOf "pairs_in" "pairs_in" (defArgs K14.s_pairs_in) (defBody K14.s_pairs_in) (defScope K14.s_pairs_in) .none kVpairs_in dcpairs_in pmpairs_in anpairs_in cdpairs_in ctpairs_in), slpairs_in⟩) (cpairs_in : PySem.W.codeIn K cdpairs_in "pairs_in" = true) (kpairs_in : PySem.W.keepIn K (.ref fpairs_in) = true)
    (apairs_of : PySem.W.nsIn K mainGlobals "pairs_of" = some (some (.ref fpairs_of))) (lpairs_of : K.lookup fpairs_of = some ⟨ocpairs_of, odpairs_of, .func (PySem.W.fnOf "pairs_of" "pairs_of" (defArgs K14.s_pairs_of) (defBody K14.s_pairs_of) (defScope K14.s_pairs_of) .none kVpairs_of dcpairs_of pmpairs_of anpairs_of cdpairs_of ctpairs_of), slpairs_of⟩) (cpairs_of : PySem.W.codeIn K cdpairs_of "pairs_of" = true) (kpairs_of : PySem.W.keepIn K (.ref fpairs_of) = true)
    (afact_of : PySem.W.nsIn K mainGlobals "fact_of" = some (some (.ref ffact_of))) (lfact_of : K.lookup ffact_of = some ⟨ocfact_of, odfact_of, .func (PySem.W.fnOf "fact_of" "fact_of" (defArgs K14.s_fact_of) (defBody K14.s_fact_of) (defScope K14.s_fact_of) .none kVfact_of dcfact_of pmfact_of anfact_of cdfact_of ctfact_of), slfact_of⟩) (cfact_of : PySem.W.codeIn K cdfact_of "fact_of" = true) (kfact_of : PySem.W.keepIn K (.ref ffact_of) = true)
    (asays_nothing : PySem.W.nsIn K mainGlobals "says_nothing" = some (some (.ref fsays_nothing))) (lsays_nothing : K.lookup fsays_nothing = some ⟨ocsays_nothing, odsays_nothing, .func (PySem.W.fnOf "says_nothing" "says_nothing" (defArgs K14.s_says_nothing) (defBody K14.s_says_nothing) (defScope K14.s_says_nothing) .none kVsays_nothing dcsays_nothing pmsays_nothing ansays_nothing cdsays_nothing ctsays_nothing), slsays_nothing⟩) (csays_nothing : PySem.W.codeIn K cdsays_nothing "says_nothing" = true) (ksays_nothing : PySem.W.keepIn K (.ref fsays_nothing) = true)
    (a_law_dice : PySem.W.nsIn K mainGlobals "_law_dice" = some (some (.ref f_law_dice))) (l_law_dice : K.lookup f_law_dice = some ⟨oc_law_dice, od_law_dice, .func (PySem.W.fnOf "_law_dice" "_law_dice" (defArgs K14.s__law_dice) (defBody K14.s__law_dice) (defScope K14.s__law_dice) .none kV_law_dice dc_law_dice pm_law_dice an_law_dice cd_law_dice ct_law_dice), sl_law_dice⟩) (c_law_dice : PySem.W.codeIn K cd_law_dice "_law_dice" = true) (k_law_dice : PySem.W.keepIn K (.ref f_law_dice) = true)
    (a_law_roll : PySem.W.nsIn K mainGlobals "_law_roll" = some (some (.ref f_law_roll))) (l_law_roll : K.lookup f_law_roll = some ⟨oc_law_roll, od_law_roll, .func (PySem.W.fnOf "_law_roll" "_law_roll" (defArgs K14.s__law_roll) (defBody K14.s__law_roll) (defScope K14.s__law_roll) .none kV_law_roll dc_law_roll pm_law_roll an_law_roll cd_law_roll ct_law_roll), sl_law_roll⟩) (c_law_roll : PySem.W.codeIn K cd_law_roll "_law_roll" = true) (k_law_roll : PySem.W.keepIn K (.ref f_law_roll) = true)
    (a_law_pick : PySem.W.nsIn K mainGlobals "_law_pick" = some (some (.ref f_law_pick))) (l_law_pick : K.lookup f_law_pick = some ⟨oc_law_pick, od_law_pick, .func (PySem.W.fnOf "_law_pick" "_law_pick" (defArgs K14.s__law_pick) (defBody K14.s__law_pick) (defScope K14.s__law_pick) .none kV_law_pick dc_law_pick pm_law_pick an_law_pick cd_law_pick ct_law_pick), sl_law_pick⟩) (c_law_pick : PySem.W.codeIn K cd_law_pick "_law_pick" = true) (k_law_pick : PySem.W.keepIn K (.ref f_law_pick) = true)
    (a_law_error : PySem.W.nsIn K mainGlobals "_law_error" = some (some (.ref f_law_error))) (l_law_error : K.lookup f_law_error = some ⟨oc_law_error, od_law_error, .func (PySem.W.fnOf "_law_error" "_law_error" (defArgs K14.s__law_error) (defBody K14.s__law_error) (defScope K14.s__law_error) .none kV_law_error dc_law_error pm_law_error an_law_error cd_law_error ct_law_error), sl_law_error⟩) (c_law_error : PySem.W.codeIn K cd_law_error "_law_error" = true) (k_law_error : PySem.W.keepIn K (.ref f_law_error) = true)
    (a_law_no_term : PySem.W.nsIn K mainGlobals "_law_no_term" = some (some (.ref f_law_no_term))) (l_law_no_term : K.lookup f_law_no_term = some ⟨oc_law_no_term, od_law_no_term, .func (PySem.W.fnOf "_law_no_term" "_law_no_term" (defArgs K14.s__law_no_term) (defBody K14.s__law_no_term) (defScope K14.s__law_no_term) .none kV_law_no_term dc_law_no_term pm_law_no_term an_law_no_term cd_law_no_term ct_law_no_term), sl_law_no_term⟩) (c_law_no_term : PySem.W.codeIn K cd_law_no_term "_law_no_term" = true) (k_law_no_term : PySem.W.keepIn K (.ref f_law_no_term) = true)
    (a_law_no_fact : PySem.W.nsIn K mainGlobals "_law_no_fact" = some (some (.ref f_law_no_fact))) (l_law_no_fact : K.lookup f_law_no_fact = some ⟨oc_law_no_fact, od_law_no_fact, .func (PySem.W.fnOf "_law_no_fact" "_law_no_fact" (defArgs K14.s__law_no_fact) (defBody K14.s__law_no_fact) (defScope K14.s__law_no_fact) .none kV_law_no_fact dc_law_no_fact pm_law_no_fact an_law_no_fact cd_law_no_fact ct_law_no_fact), sl_law_no_fact⟩) (c_law_no_fact : PySem.W.codeIn K cd_law_no_fact "_law_no_fact" = true) (k_law_no_fact : PySem.W.keepIn K (.ref f_law_no_fact) = true)
    (a_law_no_names : PySem.W.nsIn K mainGlobals "_law_no_names" = some (some (.ref f_law_no_names))) (l_law_no_names : K.lookup f_law_no_names = some ⟨oc_law_no_names, od_law_no_names, .func (PySem.W.fnOf "_law_no_names" "_law_no_names" (defArgs K14.s__law_no_names) (defBody K14.s__law_no_names) (defScope K14.s__law_no_names) .none kV_law_no_names dc_law_no_names pm_law_no_names an_law_no_names cd_law_no_names ct_law_no_names), sl_law_no_names⟩) (c_law_no_names : PySem.W.codeIn K cd_law_no_names "_law_no_names" = true) (k_law_no_names : PySem.W.keepIn K (.ref f_law_no_names) = true)
    (a_law_errors : PySem.W.nsIn K mainGlobals "_law_errors" = some (some (.ref f_law_errors))) (l_law_errors : K.lookup f_law_errors = some ⟨oc_law_errors, od_law_errors, .func (PySem.W.fnOf "_law_errors" "_law_errors" (defArgs K14.s__law_errors) (defBody K14.s__law_errors) (defScope K14.s__law_errors) .none kV_law_errors dc_law_errors pm_law_errors an_law_errors cd_law_errors ct_law_errors), sl_law_errors⟩) (c_law_errors : PySem.W.codeIn K cd_law_errors "_law_errors" = true) (k_law_errors : PySem.W.keepIn K (.ref f_law_errors) = true)
    (a_law_case_right : PySem.W.nsIn K mainGlobals "_law_case_right" = some (some (.ref f_law_case_right))) (l_law_case_right : K.lookup f_law_case_right = some ⟨oc_law_case_right, od_law_case_right, .func (PySem.W.fnOf "_law_case_right" "_law_case_right" (defArgs K14.s__law_case_right) (defBody K14.s__law_case_right) (defScope K14.s__law_case_right) .none kV_law_case_right dc_law_case_right pm_law_case_right an_law_case_right cd_law_case_right ct_law_case_right), sl_law_case_right⟩) (c_law_case_right : PySem.W.codeIn K cd_law_case_right "_law_case_right" = true) (k_law_case_right : PySem.W.keepIn K (.ref f_law_case_right) = true)
    (alaw : PySem.W.nsIn K mainGlobals "law" = some (some (.ref flaw))) (llaw : K.lookup flaw = some ⟨oclaw, odlaw, .func (PySem.W.fnOf "law" "law" (defArgs K14.s_law) (defBody K14.s_law) (defScope K14.s_law) .none kVlaw dclaw pmlaw anlaw cdlaw ctlaw), sllaw⟩) (claw : PySem.W.codeIn K cdlaw "law" = true) (klaw : PySem.W.keepIn K (.ref flaw) = true)
    (zabs : PySem.W.nsIn K mainGlobals "abs" = some none)
    (zall : PySem.W.nsIn K mainGlobals "all" = some none)
    (zdict : PySem.W.nsIn K mainGlobals "dict" = some none)
    (zenumerate : PySem.W.nsIn K mainGlobals "enumerate" = some none)
    (zint : PySem.W.nsIn K mainGlobals "int" = some none)
    (zisinstance : PySem.W.nsIn K mainGlobals "isinstance" = some none)
    (zlen : PySem.W.nsIn K mainGlobals "len" = some none)
    (zlist : PySem.W.nsIn K mainGlobals "list" = some none)
    (zmax : PySem.W.nsIn K mainGlobals "max" = some none)
    (zmin : PySem.W.nsIn K mainGlobals "min" = some none)
    (zrange : PySem.W.nsIn K mainGlobals "range" = some none)
    (zset : PySem.W.nsIn K mainGlobals "set" = some none)
    (zsorted : PySem.W.nsIn K mainGlobals "sorted" = some none)
    (zstr : PySem.W.nsIn K mainGlobals "str" = some none)
    (zsum : PySem.W.nsIn K mainGlobals "sum" = some none)
    (ztuple : PySem.W.nsIn K mainGlobals "tuple" = some none)
    (zzip : PySem.W.nsIn K mainGlobals "zip" = some none)
    {CInvalidName : Addr} (nInvalidName : PySem.W.nsIn K mainGlobals "InvalidName" = some (some (.ref CInvalidName))) (xInvalidName : PySem.W.excIn K CInvalidName [.type "ValueError", .type "Exception", .type "BaseException", .type "object"] "ValueError.__new__" = true) (kInvalidName : PySem.W.keepIn K (.ref CInvalidName) = true) (bInvalidName : PySem.W.subIn K (.ref CInvalidName) (.type "BaseException") = some true) (tInvalidName : PySem.W.typeIn K (.ref CInvalidName) = some (.type "type")) (iInvalidName : PySem.W.isClsIn K CInvalidName = true) (sInvalidName : PySem.W.subIn K (.ref CInvalidName) (.ref CInvalidName) = some true)
    {CInvalidTerm : Addr} (nInvalidTerm : PySem.W.nsIn K mainGlobals "InvalidTerm" = some (some (.ref CInvalidTerm))) (xInvalidTerm : PySem.W.excIn K CInvalidTerm [.type "ValueError", .type "Exception", .type "BaseException", .type "object"] "ValueError.__new__" = true) (kInvalidTerm : PySem.W.keepIn K (.ref CInvalidTerm) = true) (bInvalidTerm : PySem.W.subIn K (.ref CInvalidTerm) (.type "BaseException") = some true) (tInvalidTerm : PySem.W.typeIn K (.ref CInvalidTerm) = some (.type "type")) (iInvalidTerm : PySem.W.isClsIn K CInvalidTerm = true) (sInvalidTerm : PySem.W.subIn K (.ref CInvalidTerm) (.ref CInvalidTerm) = some true)
    {CInvalidFact : Addr} (nInvalidFact : PySem.W.nsIn K mainGlobals "InvalidFact" = some (some (.ref CInvalidFact))) (xInvalidFact : PySem.W.excIn K CInvalidFact [.type "ValueError", .type "Exception", .type "BaseException", .type "object"] "ValueError.__new__" = true) (kInvalidFact : PySem.W.keepIn K (.ref CInvalidFact) = true) (bInvalidFact : PySem.W.subIn K (.ref CInvalidFact) (.type "BaseException") = some true) (tInvalidFact : PySem.W.typeIn K (.ref CInvalidFact) = some (.type "type")) (iInvalidFact : PySem.W.isClsIn K CInvalidFact = true) (sInvalidFact : PySem.W.subIn K (.ref CInvalidFact) (.ref CInvalidFact) = some true)
    {CInvalidOperation : Addr} (nInvalidOperation : PySem.W.nsIn K mainGlobals "InvalidOperation" = some (some (.ref CInvalidOperation))) (xInvalidOperation : PySem.W.excIn K CInvalidOperation [.type "ValueError", .type "Exception", .type "BaseException", .type "object"] "ValueError.__new__" = true) (kInvalidOperation : PySem.W.keepIn K (.ref CInvalidOperation) = true) (bInvalidOperation : PySem.W.subIn K (.ref CInvalidOperation) (.type "BaseException") = some true) (tInvalidOperation : PySem.W.typeIn K (.ref CInvalidOperation) = some (.type "type")) (iInvalidOperation : PySem.W.isClsIn K CInvalidOperation = true) (sInvalidOperation : PySem.W.subIn K (.ref CInvalidOperation) (.ref CInvalidOperation) = some true)
    {CPartError : Addr} (nPartError : PySem.W.nsIn K mainGlobals "PartError" = some (some (.ref CPartError)))
    {CParseError : Addr} (nParseError : PySem.W.nsIn K mainGlobals "ParseError" = some (some (.ref CParseError)))
    {tFIRST_WIDTH : Tok} (zFIRST_WIDTH : PySem.W.nsIn K mainGlobals "FIRST_WIDTH" = some (some (.int 16 tFIRST_WIDTH)))
    {tMANY_PARTS : Tok} (zMANY_PARTS : PySem.W.nsIn K mainGlobals "MANY_PARTS" = some (some (.int 100000 tMANY_PARTS)))
    {tMAX_PLACES : Tok} (zMAX_PLACES : PySem.W.nsIn K mainGlobals "MAX_PLACES" = some (some (.int 3 tMAX_PLACES)))
    {tLONGEST_NAME : Tok} (zLONGEST_NAME : PySem.W.nsIn K mainGlobals "LONGEST_NAME" = some (some (.int 8 tLONGEST_NAME)))
    : ∃ T : K14.Tx K mg, T.alaw = flaw ∧ T.dlaw = PySem.W.fnOf "law" "law" (defArgs K14.s_law) (defBody K14.s_law) (defScope K14.s_law) .none kVlaw dclaw pmlaw anlaw cdlaw ctlaw ∧ T.d_law_case_right.code = cd_law_case_right ∧ T.dlaw.code = cdlaw ∧ T.CInvalidTerm = CInvalidTerm ∧ T.CInvalidFact = CInvalidFact ∧ T.CInvalidName = CInvalidName ∧ T.CInvalidOperation = CInvalidOperation ∧ T.CPartError = CPartError ∧ K14.cls T = [CInvalidTerm, CInvalidFact, CInvalidName, CInvalidOperation, CParseError] := by
  have Fpreorder := fun_mk (st := K14.s_preorder) lpreorder cpreorder kpreorder
  have Bpreorder := Fpreorder.binds (ps := ["terms"]) fun _ _ _ _ _ _ us hl => match us, hl with | [_], _ => rfl
  have Fwritten := fun_mk (st := K14.s_written) lwritten cwritten kwritten
  have Bwritten := Fwritten.binds (ps := ["term"]) fun _ _ _ _ _ _ us hl => match us, hl with | [_], _ => rfl
  have Fnumbered := fun_mk (st := K14.s_numbered) lnumbered cnumbered knumbered
  have Bnumbered := Fnumbered.binds (ps := ["parts"]) fun _ _ _ _ _ _ us hl => match us, hl with | [_], _ => rfl
  have Fnumbered_rows := fun_mk (st := K14.s_numbered_rows) lnumbered_rows cnumbered_rows knumbered_rows
  have Bnumbered_rows := Fnumbered_rows.binds (ps := ["parts"]) fun _ _ _ _ _ _ us hl => match us, hl with | [_], _ => rfl
  have Fsizes_of := fun_mk (st := K14.s_sizes_of) lsizes_of csizes_of ksizes_of
  have Bsizes_of := Fsizes_of.binds (ps := ["rows"]) fun _ _ _ _ _ _ us hl => match us, hl with | [_], _ => rfl
  have Fput_in := fun_mk (st := K14.s_put_in) lput_in cput_in kput_in
  have Bput_in := Fput_in.binds (ps := ["term", "old", "new"]) fun _ _ _ _ _ _ us hl => match us, hl with | [_, _, _], _ => rfl
  have Fwith_names := fun_mk (st := K14.s_with_names) lwith_names cwith_names kwith_names
  have Bwith_names := Fwith_names.binds (ps := ["term", "names"]) fun _ _ _ _ _ _ us hl => match us, hl with | [_, _], _ => rfl
  have Fascending := fun_mk (st := K14.s_ascending) lascending cascending kascending
  have Bascending := Fascending.binds (ps := ["terms"]) fun _ _ _ _ _ _ us hl => match us, hl with | [_], _ => rfl
  have Forder_of := fun_mk (st := K14.s_order_of) lorder_of corder_of korder_of
  have Border_of := Forder_of.binds (ps := ["rows"]) fun _ _ _ _ _ _ us hl => match us, hl with | [_], _ => rfl
  have Forder_by_ranks := fun_mk (st := K14.s_order_by_ranks) lorder_by_ranks corder_by_ranks korder_by_ranks
  have Border_by_ranks := Forder_by_ranks.binds (ps := ["rows"]) fun _ _ _ _ _ _ us hl => match us, hl with | [_], _ => rfl
  have Franked := fun_mk (st := K14.s_ranked) lranked cranked kranked
  have Branked := Franked.binds (ps := ["names"]) fun _ _ _ _ _ _ us hl => match us, hl with | [_], _ => rfl
  have Fdense := fun_mk (st := K14.s_dense) ldense cdense kdense
  have Bdense := Fdense.binds (ps := ["keys"]) fun _ _ _ _ _ _ us hl => match us, hl with | [_], _ => rfl
  have Fis_name := fun_mk (st := K14.s_is_name) lis_name cis_name kis_name
  have Bis_name := Fis_name.binds (ps := ["value"]) fun _ _ _ _ _ _ us hl => match us, hl with | [_], _ => rfl
  have Fis_term := fun_mk (st := K14.s_is_term) lis_term cis_term kis_term
  have Bis_term := Fis_term.binds (ps := ["value"]) fun _ _ _ _ _ _ us hl => match us, hl with | [_], _ => rfl
  have Fcheck_term := fun_mk (st := K14.s_check_term) lcheck_term ccheck_term kcheck_term
  have Bcheck_term := Fcheck_term.binds (ps := ["value"]) fun _ _ _ _ _ _ us hl => match us, hl with | [_], _ => rfl
  have Fcheck_renaming := fun_mk (st := K14.s_check_renaming) lcheck_renaming ccheck_renaming kcheck_renaming
  have Bcheck_renaming := Fcheck_renaming.binds (ps := ["places", "names"]) fun _ _ _ _ _ _ us hl => match us, hl with | [_, _], _ => rfl
  have Fjoint_places := fun_mk (st := K14.s_joint_places) ljoint_places cjoint_places kjoint_places
  have Bjoint_places := Fjoint_places.binds (ps := ["values"]) fun _ _ _ _ _ _ us hl => match us, hl with | [_], _ => rfl
  have Fhas_form := fun_mk (st := K14.s_has_form) lhas_form chas_form khas_form
  have Bhas_form := Fhas_form.binds (ps := ["value"]) fun _ _ _ _ _ _ us hl => match us, hl with | [_], _ => rfl
  have Fby_name := fun_mk (st := K14.s_by_name) lby_name cby_name kby_name
  have Bby_name := Fby_name.binds (ps := ["places"]) fun _ _ _ _ _ _ us hl => match us, hl with | [_], _ => rfl
  have Fis_pair := fun_mk (st := K14.s_is_pair) lis_pair cis_pair kis_pair
  have Bis_pair := Fis_pair.binds (ps := ["value"]) fun _ _ _ _ _ _ us hl => match us, hl with | [_], _ => rfl
  have Fis_fact := fun_mk (st := K14.s_is_fact) lis_fact cis_fact kis_fact
  have Bis_fact := Fis_fact.binds (ps := ["value"]) fun _ _ _ _ _ _ us hl => match us, hl with | [_], _ => rfl
  have Fmake_pair := fun_mk (st := K14.s_make_pair) lmake_pair cmake_pair kmake_pair
  have Bmake_pair := Fmake_pair.binds (ps := ["term", "other"]) fun _ _ _ _ _ _ us hl => match us, hl with | [_, _], _ => rfl
  have Fmake_fact := fun_mk (st := K14.s_make_fact) lmake_fact cmake_fact kmake_fact
  have Fplaces_in := fun_mk (st := K14.s_places_in) lplaces_in cplaces_in kplaces_in
  have Bplaces_in := Fplaces_in.binds (ps := ["fact"]) fun _ _ _ _ _ _ us hl => match us, hl with | [_], _ => rfl
  have Fterms_of := fun_mk (st := K14.s_terms_of) lterms_of cterms_of kterms_of
  have Bterms_of := Fterms_of.binds (ps := ["fact"]) fun _ _ _ _ _ _ us hl => match us, hl with | [_], _ => rfl
  have Fnodes_of := fun_mk (st := K14.s_nodes_of) lnodes_of cnodes_of knodes_of
  have Bnodes_of := Fnodes_of.binds (ps := ["fact"]) fun _ _ _ _ _ _ us hl => match us, hl with | [_], _ => rfl
  have Fcut := fun_mk (st := K14.s_cut) lcut ccut kcut
  have Bcut := Fcut.binds (ps := ["fact", "second"]) fun _ _ _ _ _ _ us hl => match us, hl with | [_, _], _ => rfl
  have Fchanged := fun_mk (st := K14.s_changed) lchanged cchanged kchanged
  have Bchanged := Fchanged.binds (ps := ["fact", "old", "new"]) fun _ _ _ _ _ _ us hl => match us, hl with | [_, _, _], _ => rfl
  have Ffact_renamed := fun_mk (st := K14.s_fact_renamed) lfact_renamed cfact_renamed kfact_renamed
  have Ffact_renamed_by := fun_mk (st := K14.s_fact_renamed_by) lfact_renamed_by cfact_renamed_by kfact_renamed_by
  have Bfact_renamed_by := Ffact_renamed_by.binds (ps := ["fact", "names"]) fun _ _ _ _ _ _ us hl => match us, hl with | [_, _], _ => rfl
  have Ffact_text := fun_mk (st := K14.s_fact_text) lfact_text cfact_text kfact_text
  have Bfact_text := Ffact_text.binds (ps := ["fact"]) fun _ _ _ _ _ _ us hl => match us, hl with | [_], _ => rfl
  have Fcheck_fact := fun_mk (st := K14.s_check_fact) lcheck_fact ccheck_fact kcheck_fact
  have Bcheck_fact := Fcheck_fact.binds (ps := ["value"]) fun _ _ _ _ _ _ us hl => match us, hl with | [_], _ => rfl
  have Fis_couple := fun_mk (st := K14.s_is_couple) lis_couple cis_couple kis_couple
  have Bis_couple := Fis_couple.binds (ps := ["value"]) fun _ _ _ _ _ _ us hl => match us, hl with | [_], _ => rfl
  have Fare_couples := fun_mk (st := K14.s_are_couples) lare_couples care_couples kare_couples
  have Bare_couples := Fare_couples.binds (ps := ["values"]) fun _ _ _ _ _ _ us hl => match us, hl with | [_], _ => rfl
  have Fis_ordered := fun_mk (st := K14.s_is_ordered) lis_ordered cis_ordered kis_ordered
  have Bis_ordered := Fis_ordered.binds (ps := ["couple"]) fun _ _ _ _ _ _ us hl => match us, hl with | [_], _ => rfl
  have Fkey_of := fun_mk (st := K14.s_key_of) lkey_of ckey_of kkey_of
  have Bkey_of := Fkey_of.binds (ps := ["couple"]) fun _ _ _ _ _ _ us hl => match us, hl with | [_], _ => rfl
  have Fsides_of := fun_mk (st := K14.s_sides_of) lsides_of csides_of ksides_of
  have Bsides_of := Fsides_of.binds (ps := ["couples"]) fun _ _ _ _ _ _ us hl => match us, hl with | [_], _ => rfl
  have Fpairs_in := fun_mk (st := K14.s_pairs_in) lpairs_in cpairs_in kpairs_in
  have Bpairs_in := Fpairs_in.binds (ps := ["fact"]) fun _ _ _ _ _ _ us hl => match us, hl with | [_], _ => rfl
  have Fpairs_of := fun_mk (st := K14.s_pairs_of) lpairs_of cpairs_of kpairs_of
  have Bpairs_of := Fpairs_of.binds (ps := ["couples"]) fun _ _ _ _ _ _ us hl => match us, hl with | [_], _ => rfl
  have Ffact_of := fun_mk (st := K14.s_fact_of) lfact_of cfact_of kfact_of
  have Bfact_of := Ffact_of.binds (ps := ["conclusion", "conditions"]) fun _ _ _ _ _ _ us hl => match us, hl with | [_, _], _ => rfl
  have Fsays_nothing := fun_mk (st := K14.s_says_nothing) lsays_nothing csays_nothing ksays_nothing
  have Bsays_nothing := Fsays_nothing.binds (ps := ["fact"]) fun _ _ _ _ _ _ us hl => match us, hl with | [_], _ => rfl
  have F_law_dice := fun_mk (st := K14.s__law_dice) l_law_dice c_law_dice k_law_dice
  have B_law_dice := F_law_dice.binds (ps := ["script", "spot"]) fun _ _ _ _ _ _ us hl => match us, hl with | [_, _], _ => rfl
  have F_law_roll := fun_mk (st := K14.s__law_roll) l_law_roll c_law_roll k_law_roll
  have B_law_roll := F_law_roll.binds (ps := ["dice", "top"]) fun _ _ _ _ _ _ us hl => match us, hl with | [_, _], _ => rfl
  have F_law_pick := fun_mk (st := K14.s__law_pick) l_law_pick c_law_pick k_law_pick
  have B_law_pick := F_law_pick.binds (ps := ["dice", "items"]) fun _ _ _ _ _ _ us hl => match us, hl with | [_, _], _ => rfl
  have F_law_error := fun_mk (st := K14.s__law_error) l_law_error c_law_error k_law_error
  have B_law_error := F_law_error.binds (ps := ["call"]) fun _ _ _ _ _ _ us hl => match us, hl with | [_], _ => rfl
  have F_law_no_term := fun_mk (st := K14.s__law_no_term) l_law_no_term c_law_no_term k_law_no_term
  have B_law_no_term := F_law_no_term.binds (ps := ["dice"]) fun _ _ _ _ _ _ us hl => match us, hl with | [_], _ => rfl
  have F_law_no_fact := fun_mk (st := K14.s__law_no_fact) l_law_no_fact c_law_no_fact k_law_no_fact
  have B_law_no_fact := F_law_no_fact.binds (ps := ["dice"]) fun _ _ _ _ _ _ us hl => match us, hl with | [_], _ => rfl
  have F_law_no_names := fun_mk (st := K14.s__law_no_names) l_law_no_names c_law_no_names k_law_no_names
  have B_law_no_names := F_law_no_names.binds (ps := ["dice"]) fun _ _ _ _ _ _ us hl => match us, hl with | [_], _ => rfl
  have F_law_errors := fun_mk (st := K14.s__law_errors) l_law_errors c_law_errors k_law_errors
  have B_law_errors := F_law_errors.binds (ps := ["calls"]) fun _ _ _ _ _ _ us hl => match us, hl with | [_], _ => rfl
  have F_law_case_right := fun_mk (st := K14.s__law_case_right) l_law_case_right c_law_case_right k_law_case_right
  have B_law_case_right := F_law_case_right.binds (ps := ["dice"]) fun _ _ _ _ _ _ us hl => match us, hl with | [_], _ => rfl
  have Flaw := fun_mk (st := K14.s_law) llaw claw klaw
  have Blaw := Flaw.binds (ps := ["script"]) fun _ _ _ _ _ _ us hl => match us, hl with | [_], _ => rfl
  exact ⟨{ b_abs := PySem.W.mg_none_of X G zabs, b_all := PySem.W.mg_none_of X G zall, b_dict := PySem.W.mg_none_of X G zdict, b_enumerate := PySem.W.mg_none_of X G zenumerate, b_int := PySem.W.mg_none_of X G zint, b_isinstance := PySem.W.mg_none_of X G zisinstance, b_len := PySem.W.mg_none_of X G zlen, b_list := PySem.W.mg_none_of X G zlist, b_max := PySem.W.mg_none_of X G zmax, b_min := PySem.W.mg_none_of X G zmin, b_range := PySem.W.mg_none_of X G zrange, b_set := PySem.W.mg_none_of X G zset, b_sorted := PySem.W.mg_none_of X G zsorted, b_str := PySem.W.mg_none_of X G zstr, b_sum := PySem.W.mg_none_of X G zsum, b_tuple := PySem.W.mg_none_of X G ztuple, b_zip := PySem.W.mg_none_of X G zzip, CInvalidName := CInvalidName, gInvalidName := PySem.W.mg_of X G nInvalidName, xInvalidName := xInvalidName, kInvalidName := kInvalidName, bInvalidName := bInvalidName, tInvalidName := tInvalidName, eInvalidName := Kx.exm_self bInvalidName iInvalidName tInvalidName sInvalidName, CInvalidTerm := CInvalidTerm, gInvalidTerm := PySem.W.mg_of X G nInvalidTerm, xInvalidTerm := xInvalidTerm, kInvalidTerm := kInvalidTerm, bInvalidTerm := bInvalidTerm, tInvalidTerm := tInvalidTerm, eInvalidTerm := Kx.exm_self bInvalidTerm iInvalidTerm tInvalidTerm sInvalidTerm, CInvalidFact := CInvalidFact, gInvalidFact := PySem.W.mg_of X G nInvalidFact, xInvalidFact := xInvalidFact, kInvalidFact := kInvalidFact, bInvalidFact := bInvalidFact, tInvalidFact := tInvalidFact, eInvalidFact := Kx.exm_self bInvalidFact iInvalidFact tInvalidFact sInvalidFact, CInvalidOperation := CInvalidOperation, gInvalidOperation := PySem.W.mg_of X G nInvalidOperation, xInvalidOperation := xInvalidOperation, kInvalidOperation := kInvalidOperation, bInvalidOperation := bInvalidOperation, tInvalidOperation := tInvalidOperation, eInvalidOperation := Kx.exm_self bInvalidOperation iInvalidOperation tInvalidOperation sInvalidOperation, CPartError := CPartError, gPartError := PySem.W.mg_of X G nPartError, CParseError := CParseError, gParseError := PySem.W.mg_of X G nParseError, c_FIRST_WIDTH := ⟨_, PySem.W.mg_of X G zFIRST_WIDTH⟩, c_MANY_PARTS := ⟨_, PySem.W.mg_of X G zMANY_PARTS⟩, c_MAX_PLACES := ⟨_, PySem.W.mg_of X G zMAX_PLACES⟩, c_LONGEST_NAME := ⟨_, PySem.W.mg_of X G zLONGEST_NAME⟩, apreorder := fpreorder, dpreorder := _, fpreorder := Fpreorder, gpreorder := PySem.W.mg_of X G apreorder, npreorder := Bpreorder, awritten := fwritten, dwritten := _, fwritten := Fwritten, gwritten := PySem.W.mg_of X G awritten, nwritten := Bwritten, anumbered := fnumbered, dnumbered := _, fnumbered := Fnumbered, gnumbered := PySem.W.mg_of X G anumbered, nnumbered := Bnumbered, anumbered_rows := fnumbered_rows, dnumbered_rows := _, fnumbered_rows := Fnumbered_rows, gnumbered_rows := PySem.W.mg_of X G anumbered_rows, nnumbered_rows := Bnumbered_rows, asizes_of := fsizes_of, dsizes_of := _, fsizes_of := Fsizes_of, gsizes_of := PySem.W.mg_of X G asizes_of, nsizes_of := Bsizes_of, aput_in := fput_in, dput_in := _, fput_in := Fput_in, gput_in := PySem.W.mg_of X G aput_in, nput_in := Bput_in, awith_names := fwith_names, dwith_names := _, fwith_names := Fwith_names, gwith_names := PySem.W.mg_of X G awith_names, nwith_names := Bwith_names, aascending := fascending, dascending := _, fascending := Fascending, gascending := PySem.W.mg_of X G aascending, nascending := Bascending, aorder_of := forder_of, dorder_of := _, forder_of := Forder_of, gorder_of := PySem.W.mg_of X G aorder_of, norder_of := Border_of, aorder_by_ranks := forder_by_ranks, dorder_by_ranks := _, forder_by_ranks := Forder_by_ranks, gorder_by_ranks := PySem.W.mg_of X G aorder_by_ranks, norder_by_ranks := Border_by_ranks, aranked := franked, dranked := _, franked := Franked, granked := PySem.W.mg_of X G aranked, nranked := Branked, adense := fdense, ddense := _, fdense := Fdense, gdense := PySem.W.mg_of X G adense, ndense := Bdense, ais_name := fis_name, dis_name := _, fis_name := Fis_name, gis_name := PySem.W.mg_of X G ais_name, nis_name := Bis_name, ais_term := fis_term, dis_term := _, fis_term := Fis_term, gis_term := PySem.W.mg_of X G ais_term, nis_term := Bis_term, acheck_term := fcheck_term, dcheck_term := _, fcheck_term := Fcheck_term, gcheck_term := PySem.W.mg_of X G acheck_term, ncheck_term := Bcheck_term, acheck_renaming := fcheck_renaming, dcheck_renaming := _, fcheck_renaming := Fcheck_renaming, gcheck_renaming := PySem.W.mg_of X G acheck_renaming, ncheck_renaming := Bcheck_renaming, ajoint_places := fjoint_places, djoint_places := _, fjoint_places := Fjoint_places, gjoint_places := PySem.W.mg_of X G ajoint_places, njoint_places := Bjoint_places, ahas_form := fhas_form, dhas_form := _, fhas_form := Fhas_form, ghas_form := PySem.W.mg_of X G ahas_form, nhas_form := Bhas_form, aby_name := fby_name, dby_name := _, fby_name := Fby_name, gby_name := PySem.W.mg_of X G aby_name, nby_name := Bby_name, ais_pair := fis_pair, dis_pair := _, fis_pair := Fis_pair, gis_pair := PySem.W.mg_of X G ais_pair, nis_pair := Bis_pair, ais_fact := fis_fact, dis_fact := _, fis_fact := Fis_fact, gis_fact := PySem.W.mg_of X G ais_fact, nis_fact := Bis_fact, amake_pair := fmake_pair, dmake_pair := _, fmake_pair := Fmake_pair, gmake_pair := PySem.W.mg_of X G amake_pair, nmake_pair := Bmake_pair, amake_fact := fmake_fact, dmake_fact := _, fmake_fact := Fmake_fact, gmake_fact := PySem.W.mg_of X G amake_fact, aplaces_in := fplaces_in, dplaces_in := _, fplaces_in := Fplaces_in, gplaces_in := PySem.W.mg_of X G aplaces_in, nplaces_in := Bplaces_in, aterms_of := fterms_of, dterms_of := _, fterms_of := Fterms_of, gterms_of := PySem.W.mg_of X G aterms_of, nterms_of := Bterms_of, anodes_of := fnodes_of, dnodes_of := _, fnodes_of := Fnodes_of, gnodes_of := PySem.W.mg_of X G anodes_of, nnodes_of := Bnodes_of, acut := fcut, dcut := _, fcut := Fcut, gcut := PySem.W.mg_of X G acut, ncut := Bcut, achanged := fchanged, dchanged := _, fchanged := Fchanged, gchanged := PySem.W.mg_of X G achanged, nchanged := Bchanged, afact_renamed := ffact_renamed, dfact_renamed := _, ffact_renamed := Ffact_renamed, gfact_renamed := PySem.W.mg_of X G afact_renamed, afact_renamed_by := ffact_renamed_by, dfact_renamed_by := _, ffact_renamed_by := Ffact_renamed_by, gfact_renamed_by := PySem.W.mg_of X G afact_renamed_by, nfact_renamed_by := Bfact_renamed_by, afact_text := ffact_text, dfact_text := _, ffact_text := Ffact_text, gfact_text := PySem.W.mg_of X G afact_text, nfact_text := Bfact_text, acheck_fact := fcheck_fact, dcheck_fact := _, fcheck_fact := Fcheck_fact, gcheck_fact := PySem.W.mg_of X G acheck_fact, ncheck_fact := Bcheck_fact, ais_couple := fis_couple, dis_couple := _, fis_couple := Fis_couple, gis_couple := PySem.W.mg_of X G ais_couple, nis_couple := Bis_couple, aare_couples := fare_couples, dare_couples := _, fare_couples := Fare_couples, gare_couples := PySem.W.mg_of X G aare_couples, nare_couples := Bare_couples, ais_ordered := fis_ordered, dis_ordered := _, fis_ordered := Fis_ordered, gis_ordered := PySem.W.mg_of X G ais_ordered, nis_ordered := Bis_ordered, akey_of := fkey_of, dkey_of := _, fkey_of := Fkey_of, gkey_of := PySem.W.mg_of X G akey_of, nkey_of := Bkey_of, asides_of := fsides_of, dsides_of := _, fsides_of := Fsides_of, gsides_of := PySem.W.mg_of X G asides_of, nsides_of := Bsides_of, apairs_in := fpairs_in, dpairs_in := _, fpairs_in := Fpairs_in, gpairs_in := PySem.W.mg_of X G apairs_in, npairs_in := Bpairs_in, apairs_of := fpairs_of, dpairs_of := _, fpairs_of := Fpairs_of, gpairs_of := PySem.W.mg_of X G apairs_of, npairs_of := Bpairs_of, afact_of := ffact_of, dfact_of := _, ffact_of := Ffact_of, gfact_of := PySem.W.mg_of X G afact_of, nfact_of := Bfact_of, asays_nothing := fsays_nothing, dsays_nothing := _, fsays_nothing := Fsays_nothing, gsays_nothing := PySem.W.mg_of X G asays_nothing, nsays_nothing := Bsays_nothing, a_law_dice := f_law_dice, d_law_dice := _, f_law_dice := F_law_dice, g_law_dice := PySem.W.mg_of X G a_law_dice, n_law_dice := B_law_dice, a_law_roll := f_law_roll, d_law_roll := _, f_law_roll := F_law_roll, g_law_roll := PySem.W.mg_of X G a_law_roll, n_law_roll := B_law_roll, a_law_pick := f_law_pick, d_law_pick := _, f_law_pick := F_law_pick, g_law_pick := PySem.W.mg_of X G a_law_pick, n_law_pick := B_law_pick, a_law_error := f_law_error, d_law_error := _, f_law_error := F_law_error, g_law_error := PySem.W.mg_of X G a_law_error, n_law_error := B_law_error, a_law_no_term := f_law_no_term, d_law_no_term := _, f_law_no_term := F_law_no_term, g_law_no_term := PySem.W.mg_of X G a_law_no_term, n_law_no_term := B_law_no_term, a_law_no_fact := f_law_no_fact, d_law_no_fact := _, f_law_no_fact := F_law_no_fact, g_law_no_fact := PySem.W.mg_of X G a_law_no_fact, n_law_no_fact := B_law_no_fact, a_law_no_names := f_law_no_names, d_law_no_names := _, f_law_no_names := F_law_no_names, g_law_no_names := PySem.W.mg_of X G a_law_no_names, n_law_no_names := B_law_no_names, a_law_errors := f_law_errors, d_law_errors := _, f_law_errors := F_law_errors, g_law_errors := PySem.W.mg_of X G a_law_errors, n_law_errors := B_law_errors, a_law_case_right := f_law_case_right, d_law_case_right := _, f_law_case_right := F_law_case_right, g_law_case_right := PySem.W.mg_of X G a_law_case_right, n_law_case_right := B_law_case_right, alaw := flaw, dlaw := _, flaw := Flaw, glaw := PySem.W.mg_of X G alaw, nlaw := Blaw }, rfl, rfl, rfl, rfl, rfl, rfl, rfl, rfl, rfl, rfl⟩

namespace K14
open LamX
theorem ends {P : Program} {w : World} {K : PySem.W.Frag} {mg : Str → Option Value} {fa flaw : Addr} {CT CF CN CO CP : Addr} {cs : List Addr} {kV dc pm cd ct cd_law_case_right cdlaw : Value} {an : Option Addr} {cC PC cL PL : Addr}
    (hT : ∃ T : Tx K mg, T.alaw = flaw ∧ T.dlaw = PySem.W.fnOf "law" "law" (defArgs s_law) (defBody s_law) (defScope s_law) .none kV dc pm an cd ct ∧ T.d_law_case_right.code = cd_law_case_right ∧ T.dlaw.code = cdlaw ∧ T.CInvalidTerm = CT ∧ T.CInvalidFact = CF ∧ T.CInvalidName = CN ∧ T.CInvalidOperation = CO ∧ T.CPartError = CP ∧ cls T = cs) (hmg : mg "law" = some (.ref fa))
    (hk : KindsA K CT CF CN CO CP cs) (eC : cd_law_case_right = .ref cC) (eL : cdlaw = .ref cL) (neCL : PC ≠ PL) :
    ∃ fd : FuncData, (∀ (s : Shared) (u : Value), BindsTo s fd ⟨[u], []⟩ [("script", u)]) ∧ ∀ base : Heap, K.In base → base.Ns mainGlobals mg → (∀ p ∈ [(cC, PC), (cL, PL)], TabB base mg p.1 p.2) → FnG P w K mg base 20 fa fd ["script"] (spLaw K [(PC, qC), (PL, qL)]) := by
  obtain ⟨T, e1, e2, eC', eL', g0, g1, g2, g3, g4, g5⟩ := hT
  have z := T.glaw
  rw [hmg] at z
  cases z
  exact ⟨T.dlaw, fun s u => by rw [e2]; exact .of_eq rfl, fun base _ _ tb => ok_lawG T ⟨kinds_of T hk g0 g1 g2 g3 g4 g5, cC, PC, cL, PL, eC'.trans eC, eL'.trans eL, neCL⟩ (tb (cC, PC) (by simp)) (tb (cL, PL) (by simp))⟩
theorem walk {l : PySem.W.OpenLaw} {q : Program} {loose : List Str} {XP : (Str → Option Value) → Heap → Prop} {YP : World → Heap → Prop} {d : DefRec} {K : Params → PySem.W.Frag} {cC PC cL PL : Addr} (hn : l.most = some 63) (hdf : d.params.defaults = [])
    (hY : ∀ (w : World) (h : Heap), YP w h → (K w.params).In h) (hM : ∀ (w : World) (h : Heap), YP w h → Makers (K w.params) [(cC, PC), (cL, PL)] h)
    (F : ∀ (w : World) (mg : Str → Option Value) (fa : Addr) (h : Heap), (K w.params).In h → h.Ns mainGlobals mg → mg d.name = some (.ref fa) →
      ∃ fd : FuncData, (∀ (s : Shared) (u : Value), BindsTo s fd ⟨[u], []⟩ [("script", u)]) ∧ ∀ base : Heap, (K w.params).In base → base.Ns mainGlobals mg → (∀ p ∈ [(cC, PC), (cL, PL)], TabB base mg p.1 p.2) → FnG l.prog w (K w.params) mg base 20 fa fd ["script"] (spLaw (K w.params) [(PC, qC), (PL, qL)])) :
    PySem.W.WalkO q loose XP YP l.row.toRowW d [] (fun f vs => PySem.call f vs) := by
  refine walk_ofT (n := 63) (k := 20) (x := "script") (sp := fun w => spLaw (K w.params) [(PC, qC), (PL, qL)]) hn (by decide) hdf ⟨rfl, by decide, by decide⟩ hY hM F fun _ H a ns _ hH hS => ⟨a, ns, rfl, hS, fun p hp => ?_, fun _ => rfl⟩
  simp only [List.mem_cons, List.not_mem_nil, or_false] at hp
  rcases hp with rfl | rfl
  · exact TabS.nil (hH (cC, PC) (by simp))
  · exact TabS.nil (hH (cL, PL) (by simp))
end K14
open PySem PySem.W PyProof.Rows
set_option maxRecDepth 100000 in
set_option maxHeartbeats 0 in
theorem PySem.Challenge.cw_shownpart_k14_fact_errors_holds : PySem.Challenge.rw_shownpart_k14_fact_errors.Holds := by
  w_on; o_law; k_head; (case hw => w_witness2)
  k_fill
  refine K14.walk (l := PySem.Challenge.rw_shownpart_k14_fact_errors) (cC := 399) (PC := 395) (cL := 406) (PL := 402) rfl rfl (fun w h Y => km_in_of Y) (fun w h Y => ?hMk) ?F
  case hMk =>
    have KX := km_in_of Y
    have HT := km_tabs_of Y
    refine ⟨fun p hp => ?_, fun p hp => ?_, fun p hp => ?_⟩
    · simp only [List.mem_cons, List.not_mem_nil, or_false] at hp
      rcases hp with rfl | rfl <;> exact HT _ (by k_mem)
    · simp only [List.mem_cons, List.not_mem_nil, or_false] at hp
      rcases hp with rfl | rfl <;> kernel_rfl
    · simp only [List.mem_cons, List.not_mem_nil, or_false] at hp
      rcases hp with rfl | rfl <;> exact codeHd_of_K KX (by kernel_rfl)
  case F =>
    intro w mg fa h KX G hmg
    refine' K14.ends (K14.tx_mk KX G ?apreorder ?lpreorder ?cpreorder ?kpreorder ?awritten ?lwritten ?cwritten ?kwritten ?anumbered ?lnumbered ?cnumbered ?knumbered ?anumbered_rows ?lnumbered_rows ?cnumbered_rows ?knumbered_rows ?asizes_of ?lsizes_of ?csizes_of ?ksizes_of ?aput_in ?lput_in ?cput_in ?kput_in ?awith_names ?lwith_names ?cwith_names ?kwith_names ?aascending ?lascending ?cascending ?kascending ?aorder_of ?lorder_of ?corder_of ?korder_of ?aorder_by_ranks ?lorder_by_ranks ?corder_by_ranks ?korder_by_ranks ?aranked ?lranked ?cranked ?kranked ?adense ?ldense ?cdense ?kdense ?ais_name ?lis_name ?cis_name ?kis_name ?ais_term ?lis_term ?cis_term ?kis_term ?acheck_term ?lcheck_term ?ccheck_term ?kcheck_term ?acheck_renaming ?lcheck_renaming ?ccheck_renaming ?kcheck_renaming ?ajoint_places ?ljoint_places ?cjoint_places ?kjoint_places ?ahas_form ?lhas_form ?chas_form ?khas_form ?aby_name ?lby_name ?cby_name ?kby_name ?ais_pair ?lis_pair ?cis_pair ?kis_pair ?ais_fact ?lis_fact ?cis_fact ?kis_fact ?amake_pair ?lmake_pair ?cmake_pair ?kmake_pair ?amake_fact ?lmake_fact ?cmake_fact ?kmake_fact ?aplaces_in ?lplaces_in ?cplaces_in ?kplaces_in ?aterms_of ?lterms_of ?cterms_of ?kterms_of ?anodes_of ?lnodes_of ?cnodes_of ?knodes_of ?acut ?lcut ?ccut ?kcut ?achanged ?lchanged ?cchanged ?kchanged ?afact_renamed ?lfact_renamed ?cfact_renamed ?kfact_renamed ?afact_renamed_by ?lfact_renamed_by ?cfact_renamed_by ?kfact_renamed_by ?afact_text ?lfact_text ?cfact_text ?kfact_text ?acheck_fact ?lcheck_fact ?ccheck_fact ?kcheck_fact ?ais_couple ?lis_couple ?cis_couple ?kis_couple ?aare_couples ?lare_couples ?care_couples ?kare_couples ?ais_ordered ?lis_ordered ?cis_ordered ?kis_ordered ?akey_of ?lkey_of ?ckey_of ?kkey_of ?asides_of ?lsides_of ?csides_of ?ksides_of ?apairs_in ?lpairs_in ?cpairs_in ?kpairs_in ?apairs_of ?lpairs_of ?cpairs_of ?kpairs_of ?afact_of ?lfact_of ?cfact_of ?kfact_of ?asays_nothing ?lsays_nothing ?csays_nothing ?ksays_nothing ?a_law_dice ?l_law_dice ?c_law_dice ?k_law_dice ?a_law_roll ?l_law_roll ?c_law_roll ?k_law_roll ?a_law_pick ?l_law_pick ?c_law_pick ?k_law_pick ?a_law_error ?l_law_error ?c_law_error ?k_law_error ?a_law_no_term ?l_law_no_term ?c_law_no_term ?k_law_no_term ?a_law_no_fact ?l_law_no_fact ?c_law_no_fact ?k_law_no_fact ?a_law_no_names ?l_law_no_names ?c_law_no_names ?k_law_no_names ?a_law_errors ?l_law_errors ?c_law_errors ?k_law_errors ?a_law_case_right ?l_law_case_right ?c_law_case_right ?k_law_case_right ?alaw ?llaw ?claw ?klaw ?zabs ?zall ?zdict ?zenumerate ?zint ?zisinstance ?zlen ?zlist ?zmax ?zmin ?zrange ?zset ?zsorted ?zstr ?zsum ?ztuple ?zzip ?nInvalidName ?xInvalidName ?kInvalidName ?bInvalidName ?tInvalidName ?iInvalidName ?sInvalidName ?nInvalidTerm ?xInvalidTerm ?kInvalidTerm ?bInvalidTerm ?tInvalidTerm ?iInvalidTerm ?sInvalidTerm ?nInvalidFact ?xInvalidFact ?kInvalidFact ?bInvalidFact ?tInvalidFact ?iInvalidFact ?sInvalidFact ?nInvalidOperation ?xInvalidOperation ?kInvalidOperation ?bInvalidOperation ?tInvalidOperation ?iInvalidOperation ?sInvalidOperation ?nPartError ?nParseError ?zFIRST_WIDTH ?zMANY_PARTS ?zMAX_PLACES ?zLONGEST_NAME) hmg ?hk ?eC ?eL (by decide)
    (case apreorder => k_is); (case lpreorder => k_is); (case cpreorder => k_is); (case kpreorder => k_is); (case awritten => k_is); (case lwritten => k_is); (case cwritten => k_is); (case kwritten => k_is)
    (case anumbered => k_is); (case lnumbered => k_is); (case cnumbered => k_is); (case knumbered => k_is); (case anumbered_rows => k_is); (case lnumbered_rows => k_is); (case cnumbered_rows => k_is); (case knumbered_rows => k_is)
    (case asizes_of => k_is); (case lsizes_of => k_is); (case csizes_of => k_is); (case ksizes_of => k_is); (case aput_in => k_is); (case lput_in => k_is); (case cput_in => k_is); (case kput_in => k_is)
    (case awith_names => k_is); (case lwith_names => k_is); (case cwith_names => k_is); (case kwith_names => k_is); (case aascending => k_is); (case lascending => k_is); (case cascending => k_is); (case kascending => k_is)
    (case aorder_of => k_is); (case lorder_of => k_is); (case corder_of => k_is); (case korder_of => k_is); (case aorder_by_ranks => k_is); (case lorder_by_ranks => k_is); (case corder_by_ranks => k_is); (case korder_by_ranks => k_is)
    (case aranked => k_is); (case lranked => k_is); (case cranked => k_is); (case kranked => k_is); (case adense => k_is); (case ldense => k_is); (case cdense => k_is); (case kdense => k_is)
    (case ais_name => k_is); (case lis_name => k_is); (case cis_name => k_is); (case kis_name => k_is); (case ais_term => k_is); (case lis_term => k_is); (case cis_term => k_is); (case kis_term => k_is)
    (case acheck_term => k_is); (case lcheck_term => k_is); (case ccheck_term => k_is); (case kcheck_term => k_is); (case acheck_renaming => k_is); (case lcheck_renaming => k_is); (case ccheck_renaming => k_is); (case kcheck_renaming => k_is)
    (case ajoint_places => k_is); (case ljoint_places => k_is); (case cjoint_places => k_is); (case kjoint_places => k_is); (case ahas_form => k_is); (case lhas_form => k_is); (case chas_form => k_is); (case khas_form => k_is)
    (case aby_name => k_is); (case lby_name => k_is); (case cby_name => k_is); (case kby_name => k_is); (case ais_pair => k_is); (case lis_pair => k_is); (case cis_pair => k_is); (case kis_pair => k_is)
    (case ais_fact => k_is); (case lis_fact => k_is); (case cis_fact => k_is); (case kis_fact => k_is); (case amake_pair => k_is); (case lmake_pair => k_is); (case cmake_pair => k_is); (case kmake_pair => k_is)
    (case amake_fact => k_is); (case lmake_fact => k_is); (case cmake_fact => k_is); (case kmake_fact => k_is); (case aplaces_in => k_is); (case lplaces_in => k_is); (case cplaces_in => k_is); (case kplaces_in => k_is)
    (case aterms_of => k_is); (case lterms_of => k_is); (case cterms_of => k_is); (case kterms_of => k_is); (case anodes_of => k_is); (case lnodes_of => k_is); (case cnodes_of => k_is); (case knodes_of => k_is)
    (case acut => k_is); (case lcut => k_is); (case ccut => k_is); (case kcut => k_is); (case achanged => k_is); (case lchanged => k_is); (case cchanged => k_is); (case kchanged => k_is)
    (case afact_renamed => k_is); (case lfact_renamed => k_is); (case cfact_renamed => k_is); (case kfact_renamed => k_is); (case afact_renamed_by => k_is); (case lfact_renamed_by => k_is); (case cfact_renamed_by => k_is); (case kfact_renamed_by => k_is)
    (case afact_text => k_is); (case lfact_text => k_is); (case cfact_text => k_is); (case kfact_text => k_is); (case acheck_fact => k_is); (case lcheck_fact => k_is); (case ccheck_fact => k_is); (case kcheck_fact => k_is)
    (case ais_couple => k_is); (case lis_couple => k_is); (case cis_couple => k_is); (case kis_couple => k_is); (case aare_couples => k_is); (case lare_couples => k_is); (case care_couples => k_is); (case kare_couples => k_is)
    (case ais_ordered => k_is); (case lis_ordered => k_is); (case cis_ordered => k_is); (case kis_ordered => k_is); (case akey_of => k_is); (case lkey_of => k_is); (case ckey_of => k_is); (case kkey_of => k_is)
    (case asides_of => k_is); (case lsides_of => k_is); (case csides_of => k_is); (case ksides_of => k_is); (case apairs_in => k_is); (case lpairs_in => k_is); (case cpairs_in => k_is); (case kpairs_in => k_is)
    (case apairs_of => k_is); (case lpairs_of => k_is); (case cpairs_of => k_is); (case kpairs_of => k_is); (case afact_of => k_is); (case lfact_of => k_is); (case cfact_of => k_is); (case kfact_of => k_is)
    (case asays_nothing => k_is); (case lsays_nothing => k_is); (case csays_nothing => k_is); (case ksays_nothing => k_is); (case a_law_dice => k_is); (case l_law_dice => k_is); (case c_law_dice => k_is); (case k_law_dice => k_is)
    (case a_law_roll => k_is); (case l_law_roll => k_is); (case c_law_roll => k_is); (case k_law_roll => k_is); (case a_law_pick => k_is); (case l_law_pick => k_is); (case c_law_pick => k_is); (case k_law_pick => k_is)
    (case a_law_error => k_is); (case l_law_error => k_is); (case c_law_error => k_is); (case k_law_error => k_is); (case a_law_no_term => k_is); (case l_law_no_term => k_is); (case c_law_no_term => k_is); (case k_law_no_term => k_is)
    (case a_law_no_fact => k_is); (case l_law_no_fact => k_is); (case c_law_no_fact => k_is); (case k_law_no_fact => k_is); (case a_law_no_names => k_is); (case l_law_no_names => k_is); (case c_law_no_names => k_is); (case k_law_no_names => k_is)
    (case a_law_errors => k_is); (case l_law_errors => k_is); (case c_law_errors => k_is); (case k_law_errors => k_is); (case a_law_case_right => k_is); (case l_law_case_right => k_is); (case c_law_case_right => k_is); (case k_law_case_right => k_is)
    (case alaw => k_is); (case llaw => k_is); (case claw => k_is); (case klaw => k_is); (case zabs => k_is); (case zall => k_is); (case zdict => k_is); (case zenumerate => k_is)
    (case zint => k_is); (case zisinstance => k_is); (case zlen => k_is); (case zlist => k_is); (case zmax => k_is); (case zmin => k_is); (case zrange => k_is); (case zset => k_is)
    (case zsorted => k_is); (case zstr => k_is); (case zsum => k_is); (case ztuple => k_is); (case zzip => k_is); (case nInvalidName => k_is); (case xInvalidName => k_exc); (case kInvalidName => k_is)
    (case bInvalidName => k_is); (case tInvalidName => k_is); (case iInvalidName => k_is); (case sInvalidName => first | rfl | k_is); (case nInvalidTerm => k_is); (case xInvalidTerm => k_exc); (case kInvalidTerm => k_is); (case bInvalidTerm => k_is)
    (case tInvalidTerm => k_is); (case iInvalidTerm => k_is); (case sInvalidTerm => first | rfl | k_is); (case nInvalidFact => k_is); (case xInvalidFact => k_exc); (case kInvalidFact => k_is); (case bInvalidFact => k_is); (case tInvalidFact => k_is)
    (case iInvalidFact => k_is); (case sInvalidFact => first | rfl | k_is); (case nInvalidOperation => k_is); (case xInvalidOperation => k_exc); (case kInvalidOperation => k_is); (case bInvalidOperation => k_is); (case tInvalidOperation => k_is); (case iInvalidOperation => k_is)
    (case sInvalidOperation => first | rfl | k_is); (case nPartError => k_is); (case nParseError => k_is); (case zFIRST_WIDTH => k_is); (case zMANY_PARTS => k_is); (case zMAX_PLACES => k_is); (case zLONGEST_NAME => k_is)
    (case hk => exact ⟨by kernel_rfl, by kernel_rfl, by kernel_rfl, by kernel_rfl, ⟨by kernel_rfl, by kernel_rfl, by kernel_rfl, by kernel_rfl, by kernel_rfl, by kernel_rfl, by kernel_rfl, by kernel_rfl⟩, ⟨by kernel_rfl, by kernel_rfl, by kernel_rfl, by kernel_rfl, by kernel_rfl, by kernel_rfl, by kernel_rfl, by kernel_rfl⟩, ⟨by kernel_rfl, by kernel_rfl, by kernel_rfl, by kernel_rfl, by kernel_rfl, by kernel_rfl, by kernel_rfl, by kernel_rfl⟩, ⟨by kernel_rfl, by kernel_rfl, by kernel_rfl, by kernel_rfl, by kernel_rfl, by kernel_rfl, by kernel_rfl, by kernel_rfl⟩, by kernel_rfl, by kernel_rfl, by kernel_rfl, by kernel_rfl⟩)
    (case eC => rfl); (case eL => rfl)
