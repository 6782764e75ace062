import PyProof.Rows.All
import Wide.All
import OpenK.AllK
import Wide.FinOn
import HandS.ForMost
import HandS.TupSets
import HandS.Strs
import KE.SortData
import HandS.IsInst
import HandS.SetKeys
import HandS.StrMore
import HandS.Star
import HandS.TupAny
import HandS.Wide
import HandS.Style
import HandS.Codes
import HandS.Text
import PyProof.DictMoreH
import HandS.TupLen
import HandS.Conv
import HandS.SetBool
import HandS.ReplaceLit
import HandS.ReplaceDef
import HandS.WordsExc
import HandS.TryOnly
import HandS.NoneIn
import HandS.Walk
import HandS.More
import KE.LtData
import KE.DataCmp
import HandS.SetFor
import HandS.Lambda
import HandS.TryMany
import HandS.ExcIs
import HandS.Dict
import HandS.Small
import HandS.Deep
import KE.KDictItemsList
import KE.KDictZip
import HandS.Iter
import HandS.Exc
import HandS.ExcValue
import PyProof.Rows.SortShellSt
import KE.KParD
import PySem.Challenge.RW_shownpart_k12_cuts_and_changes
set_option Elab.async false
set_option linter.all false
set_option maxRecDepth 100000
set_option maxHeartbeats 4000000
/-! Sets of tuples whose items are ints or texts: made from a list, and counted. -/
namespace Kx
open PySem PySem.Spec PyProof.Rows L2

/-- the tuple at b holds the keys k -/
def TupK (P : Program) (w : World) (h : Heap) (k : List Key) (b : Addr) : Prop := IsTupleKey (mixKind P w) h k b
def hsK (P : Program) (w : World) (k : List Key) : Int := tupleKeyHash (mixKind P w) k
abbrev Row := Addr × List Key
def rowsK (P : Program) (w : World) (L : List Row) : List (Int × Value) := L.map fun p => (hsK P w p.2, Value.ref p.1)
def keysK (L : List Row) : List (List Key) := L.map Prod.snd

/-- the c-th step of the way of h -/
def stp (t : SetTable) (h : Int) (c : Nat) : SetTable.Probe := nth t.mask (runAt t.mask (SetTable.bits h % (t.mask + 1)) (SetTable.bits h)) c
theorem stp_j (t : SetTable) (h : Int) (c : Nat) : (stp t h c).j = way t.mask h c := rfl
theorem stp_add (t : SetTable) (h : Int) (c q : Nat) : nth t.mask (stp t h c) q = stp t h (c + q) := (nth_add t.mask c _ q).symm
theorem nth_nodummy (m : Nat) : ∀ (n : Nat) (p : SetTable.Probe), p.dummy = none → (nth m p n).dummy = none := by
  intro n
  induction n with
  | zero => exact fun p h => h
  | succ n ih =>
    intro p h
    apply ih (adv m p)
    show (adv m p).dummy = none
    simp only [adv]
    split <;> exact h
theorem stp_nodummy (t : SetTable) (h : Int) (c : Nat) : (stp t h c).dummy = none := nth_nodummy _ c _ rfl

section
variable {P : Program} {w : World} {A : Around} {E : Value → Shared → Prop} {s : Shared}

theorem items_plain {k : List Key} {vs : List Value} (h : ItemsAre (mixKind P w) k vs) :
    ∀ v, v ∈ vs → (∃ i t, v = Value.int i t) ∨ ∃ x t, v = Value.str x t := by
  induction h with
  | nil => exact fun v hv => nomatch hv
  | cons h1 _ ih =>
    intro v hv
    rcases List.mem_cons.mp hv with e | hv
    · subst e
      rcases keyIs_shape h1 with ⟨i, t, _, e⟩ | ⟨x, t, _, e⟩
      · exact .inl ⟨i, t, e⟩
      · exact .inr ⟨x, t, e⟩
    · exact ih v hv
/-- a tuple of ints and texts is of no class statement -/
theorem ofClass_tupK {k : List Key} {b : Addr} {Q : Bool → Shared → Prop} (hk : TupK P w s.heap k b) (q : Q false s) :
    wpAny (model P w) A (ofAClassStatement 8 (.ref b)) Q E s := by
  have ty := IsTupleKey.typeIs hk
  obtain ⟨o, its, n, h1, _, h2, h3⟩ := hk
  have pl := items_plain h3
  unfold ofAClassStatement
  apply wpAny_bind (wpAny_typeOf ty _)
  dsimp only
  have tt : (("tuple" : String) == "tuple") = true := by decide
  rw [if_pos tt]
  try apply wpAny_bind (wpAny_pure _)
  simp only [Bool.not_true, Bool.false_eq_true, if_false]
  show wpAny _ _ (seqItems? (.ref b) >>= _) _ _ s
  apply wpAny_bind (wpAny_seqItems h1 h2 _)
  dsimp only
  apply wpAny_bind
  show wpAny _ _ (forIn its _ _) _ _ s
  rw [← Array.forIn_toList]
  apply wpAny_forIn_list _ (fun rest r s' => r.1 = none ∧ s' = s ∧ ∀ v, v ∈ rest → (∃ i t, v = Value.int i t) ∨ ∃ x t, v = Value.str x t) _ _ _ _ _ ⟨rfl, rfl, pl⟩
  · rintro v rest r s' ⟨hr, rfl, hall⟩
    have e0 : ofAClassStatement 7 v = pure false := by
      rcases hall v List.mem_cons_self with ⟨i, t, rfl⟩ | ⟨x, t, rfl⟩ <;> rfl
    rw [e0]
    apply wpAny_bind (wpAny_pure _)
    simp only [Bool.false_eq_true, if_false]
    exact wpAny_pure ⟨rfl, rfl, fun u hu => hall u (List.mem_cons_of_mem _ hu)⟩
  · rintro ⟨r1, r2⟩ s' ⟨hr, rfl, _⟩
    cases hr
    exact wpAny_pure q
/-- whatever is said of a tuple's hash: a Bool, and the state stays -/
theorem byValue_tupK {k : List Key} {b : Addr} {Q : Bool → Shared → Prop} (hk : TupK P w s.heap k b) (q : ∀ c, Q c s) :
    wpAny (model P w) A (hashByValue 8 (.ref b)) Q E s := by
  have ty := IsTupleKey.typeIs hk
  obtain ⟨o, its, n, h1, _, h2, h3⟩ := hk
  have pl := items_plain h3
  unfold hashByValue
  apply wpAny_bind (wpAny_specialOf ty F.slot_tuple_hash.lookup _)
  show wpAny _ _ (seqItems? (.ref b) >>= _) _ _ s
  apply wpAny_bind (wpAny_seqItems h1 h2 _)
  apply wpAny_bind
  show wpAny _ _ (forIn its _ _) _ _ s
  rw [← Array.forIn_toList]
  apply wpAny_forIn_list _ (fun rest r s' => s' = s ∧ ∀ v, v ∈ rest → (∃ i t, v = Value.int i t) ∨ ∃ x t, v = Value.str x t) _ _ _ _ _ ⟨rfl, pl⟩
  · rintro v rest r s' ⟨rfl, hall⟩
    have tl : ∀ v, v ∈ rest → (∃ i t, v = Value.int i t) ∨ ∃ x t, v = Value.str x t := fun u hu => hall u (List.mem_cons_of_mem _ hu)
    have e0 : ∃ c, hashByValue 7 v = pure c := by
      rcases hall v List.mem_cons_self with ⟨i, t, rfl⟩ | ⟨x, t, rfl⟩
      · exact ⟨true, rfl⟩
      · exact ⟨false, rfl⟩
    obtain ⟨c, e0⟩ := e0
    rw [e0]
    apply wpAny_bind (wpAny_pure _)
    cases c
    · simp only [Bool.not_false, if_true]
      exact wpAny_pure (wpAny_pure (q _))
    · simp only [Bool.not_true, Bool.false_eq_true, if_false]
      exact wpAny_pure ⟨rfl, tl⟩
  · rintro ⟨r1, r2⟩ s' ⟨rfl, _⟩
    cases r1
    · exact wpAny_pure (q _)
    · exact wpAny_pure (q _)
/-- a search among such tuples shows nothing -/
theorem unseen_tupK {k : List Key} {b : Addr} {Q : Bool → Shared → Prop} (hk : TupK P w s.heap k b) {ys : List Value}
    (hy : ∀ y, y ∈ ys → ∃ k' c, y = Value.ref c ∧ TupK P w s.heap k' c) (q : Q false s) : wpAny (model P w) A (searchCouldBeSeen (.ref b) ys) Q E s := by
  unfold searchCouldBeSeen
  apply wpAny_bind
  apply wpAny_forIn_list _ (fun rest r s' => r.1 = none ∧ s' = s ∧ ∀ y, y ∈ rest → ∃ k' c, y = Value.ref c ∧ TupK P w s.heap k' c) _ _ _ _ _ ⟨rfl, rfl, hy⟩
  · rintro v rest r s' ⟨hr, rfl, hall⟩
    obtain ⟨k', c, rfl, hc⟩ := hall v List.mem_cons_self
    have tl : ∀ y, y ∈ rest → ∃ k' c, y = Value.ref c ∧ TupK P w s'.heap k' c := fun u hu => hall u (List.mem_cons_of_mem _ hu)
    have fin : wpAny (model P w) A (pure (ForInStep.yield r)) (fun x s1 => match x with
      | .yield b' => b'.1 = none ∧ s1 = s' ∧ ∀ y, y ∈ rest → ∃ k' c, y = Value.ref c ∧ TupK P w s'.heap k' c
      | .done _ => False) E s' := wpAny_pure ⟨hr, rfl, tl⟩
    dsimp only
    by_cases hv : (b == c || (carriedByValue (.ref b) && carriedByValue (.ref c))) = true
    · exact wp_if_pos hv (wpAny_pure ⟨rfl, rfl, tl⟩)
    · apply wp_if_neg hv
      apply wpAny_bind (wpAny_eqIsQuiet_tuple hk _)
      simp only [Bool.not_true, Bool.false_eq_true, if_false]
      apply wpAny_bind (wpAny_eqIsQuiet_tuple hc _)
      simp only [Bool.not_true, Bool.false_eq_true, if_false]
      apply wpAny_bind (ofClass_tupK hk _)
      simp only [Bool.false_eq_true, if_false]
      apply wpAny_bind (ofClass_tupK hc _)
      simp only [Bool.false_eq_true, if_false]
      exact wpAny_pure ⟨rfl, rfl, tl⟩
  · rintro ⟨r1, r2⟩ s' ⟨hr, rfl, _⟩
    cases hr
    exact wpAny_pure q

/-- the set at a: its members, its table -/
structure SetK (P : Program) (w : World) (h : Heap) (a : Addr) (L : List Row) (es : Array (Int × Value)) (ep : Nat) (t : SetTable) : Prop where
  obj : ∃ o, h.get? a = some o ∧ o.ExactSet ∧ o.data = .set es ep t
  rws : es.toList = rowsK P w L
  tbl : TabOk t (L.map fun p => hsK P w p.2)
  uni : (keysK L).Nodup
  mem : ∀ p, p ∈ L → TupK P w h p.2 p.1
  rom : L.length * 5 < t.mask * 3
  low : L.length < 64
variable {a : Addr} {L : List Row} {es : Array (Int × Value)} {ep : Nat} {t : SetTable}
theorem rowsK_len {es : Array (Int × Value)} {L : List Row} (h : es.toList = rowsK P w L) : es.size = L.length := by
  have e : es.toList.length = (rowsK P w L).length := by rw [h]
  simpa [rowsK] using e
theorem rowsK_get {es : Array (Int × Value)} {L : List Row} (h : es.toList = rowsK P w L) {i : Nat} {p : Row} (hp : L[i]? = some p) : es[i]? = some (hsK P w p.2, Value.ref p.1) := by
  have e : es.toList[i]? = some (hsK P w p.2, Value.ref p.1) := by
    rw [h]
    simp [rowsK, hp]
  rwa [Array.getElem?_toList] at e
theorem fits_of {t : SetTable} {n m : Nat} (h1 : t.dummies = #[]) (h2 : t.place.size = n) (h3 : n ≤ t.mask) : t.fits n = true := by
  simp only [SetTable.fits, SetTable.fill, h1, h2]
  simp
  exact h3
theorem SetK.fit (R : SetK P w s.heap a L es ep t) : t.fits es.size = true := by
  have z := rowsK_len R.rws
  have y := R.tbl.sz
  have x := R.rom
  rw [List.length_map] at y
  exact fits_of (m := 0) R.tbl.dm (by omega) (by omega)
theorem SetK.stays (R : SetK P w s.heap a L es ep t) : ¬ t.gaveWay = true := by
  simp only [SetTable.gaveWay, mask_odd R.tbl.mok]
  decide

/-- a search, from the c-th step of the way on; K: the first empty slot -/
theorem searchK (R : SetK P w s.heap a L es ep t) {x : Addr} {k : List Key} (hx : TupK P w s.heap k x) (hu : A.units < cLine) {K : Nat} (hf : K < 10 * SetTable.turns t.mask)
    (hK : way t.mask (hsK P w k) K ∉ t.place.toList) (hb : ∀ c, c < K → way t.mask (hsK P w k) c ∈ t.place.toList) {Q : SetFound → Shared → Prop}
    (yes : k ∈ keysK L → Q (.there none) s) (no : k ∉ keysK L → Q (.free (way t.mask (hsK P w k) K) false) s) :
    ∀ (f c : Nat) (st : Option SetTable.Probe), st.getD (t.probeStart (hsK P w k)) = stp t (hsK P w k) c → c ≤ K → K - c < f →
      (∀ (i : Nat) p, L[i]? = some p → p.2 = k → ∃ d, c ≤ d ∧ d < K ∧ t.place.toList[i]? = some (way t.mask (hsK P w k) d)) →
      wpAny (model P w) A (setSearchFrom a (.ref x) (hsK P w k) true f st) Q E s := by
  intro f
  induction f with
  | zero => exact fun c st _ _ h => absurd h (Nat.not_lt_zero _)
  | succ f ih =>
  intro c st hst hc hlt hre
  obtain ⟨o, ho, hex, hd⟩ := R.obj
  generalize hH : hsK P w k = Z at *
  rw [setSearchFrom_succ]
  apply wpAny_bind (wpAny_setState_of ho hd R.fit _)
  dsimp only
  apply wp_if_neg R.stays
  try apply wpAny_bind (wpAny_pure _)
  have jw : ∀ q, (nth t.mask (stp t Z c) q).j = way t.mask Z (c + q) := fun q => by rw [stp_add, stp_j]
  have eK : c + (K - c) = K := by omega
  have at_ : ∀ (i : Nat) p, L[i]? = some p → (fun i => (es[i]?.map (·.1)).getD 0) i = hsK P w p.2 := fun i p hp => by
    simp only [rowsK_get R.rws hp, Option.map_some, Option.getD_some]
  rcases go_spec t R.tbl.ris R.tbl.dm (fun i => (es[i]?.map (·.1)).getD 0) Z (10 * SetTable.turns t.mask) (K - c) (stp t Z c) (stp_nodummy t Z c) (by omega)
      (fun q hq => by rw [jw]; exact hb _ (by omega)) (by rw [jw, eK]; exact hK) with ⟨q, i, hq, hi, hh, hno, hpr⟩ | ⟨hno, hpr⟩
  · -- a candidate at the (c + q)-th step
    rw [jw] at hi
    have pr : t.probe (fun i => (es[i]?.map (·.1)).getD 0) Z (st.getD (t.probeStart Z)) = some (.candidate (way t.mask Z (c + q)) i (stp t Z (c + (q + 1)))) := by
      rw [hst, ← jw, ← stp_add]
      exact hpr
    rw [pr]
    dsimp only
    have hil : i < L.length := by
      have h1 := (List.getElem?_eq_some_iff.mp hi).1
      have h2 := R.tbl.sz
      rw [List.length_map] at h2
      rw [Array.length_toList, h2] at h1
      exact h1
    obtain ⟨p, hp⟩ : ∃ p, L[i]? = some p := ⟨L[i], List.getElem?_eq_getElem hil⟩
    have pm : p ∈ L := List.mem_of_getElem? hp
    have pe := rowsK_get R.rws hp
    have sl : t.slot (way t.mask Z (c + q)) = .live i := slot_live R.tbl.ris hi
    have go : wpAny (model P w) A (searchRest a (.ref x) Z true f es t (way t.mask Z (c + q)) i (stp t Z (c + (q + 1)))) Q E s := by
      unfold searchRest
      rw [pe]
      dsimp only
      apply wpAny_bind (wpAny_holding (wpAny_eqBool_tuple hu (R.mem p pm) hx _))
      apply wpAny_bind (wpAny_setState_of ho hd R.fit _)
      dsimp only
      by_cases hpk : p.2 = k
      · exact wp_if_pos (by simp [hpk]) (wpAny_pure (yes (List.mem_map.mpr ⟨p, pm, hpk⟩)))
      · apply wp_if_neg (by simp [hpk])
        try apply wpAny_bind (wpAny_pure _)
        rw [sameMem]
        dsimp only
        simp only [if_true, sl, pe]
        apply wpAny_bind (wpAny_isSame_ref_self (wpAny_bind (wpAny_pure _)))
        simp only [if_true]
        apply wp_if_neg (by simp [hpk])
        apply ih (c + (q + 1)) _ rfl (by omega) (by omega)
        intro i0 p0 h0 hk0
        obtain ⟨d, d1, d2, d3⟩ := hre i0 p0 h0 hk0
        refine ⟨d, ?_, d2, d3⟩
        have z0 : hsK P w p0.2 = Z := by rw [hk0, hH]
        by_cases z : d < c + q
        · exact absurd ((at_ i0 p0 h0).trans z0) (hno (d - c) i0 (by omega) (by rw [jw, show c + (d - c) = d by omega]; exact d3))
        · by_cases y : d = c + q
          · subst y
            have s0 := slot_live R.tbl.ris d3
            rw [sl] at s0
            injection s0 with s0
            subst s0
            rw [hp] at h0
            exact absurd ((congrArg Prod.snd (Option.some.inj h0)).trans hk0) hpk
          · omega
    by_cases hl : t.led = true
    · apply wp_if_neg (by simp [hl])
      try apply wpAny_bind (wpAny_pure _)
      exact go
    · apply wp_if_pos (by simp [hl])
      apply wpAny_bind (unseen_tupK hx _ _)
      · intro y hy
        obtain ⟨e, he, rfl⟩ := List.mem_map.mp hy
        have he2 : e ∈ es.toList := by simpa using (by simpa using he : e ∈ es ∧ e.1 = Z).1
        rw [R.rws] at he2
        obtain ⟨p2, hp2, rfl⟩ := List.mem_map.mp he2
        exact ⟨p2.2, p2.1, rfl, R.mem p2 hp2⟩
      · apply wp_if_neg (by decide)
        try apply wpAny_bind (wpAny_pure _)
        exact go
  · -- the empty slot
    have pr : t.probe (fun i => (es[i]?.map (·.1)).getD 0) Z (st.getD (t.probeStart Z)) = some (.empty (way t.mask Z K) none) := by
      have e2 : (nth t.mask (stp t Z c) (K - c)).j = way t.mask Z K := by rw [jw, eK]
      rw [hst, ← e2]
      exact hpr
    rw [pr]
    dsimp only
    apply wpAny_pure (no _)
    intro hm
    obtain ⟨p0, h0, hk0⟩ := List.mem_map.mp hm
    obtain ⟨i0, hi0⟩ := List.mem_iff_getElem?.mp h0
    obtain ⟨d, d1, d2, d3⟩ := hre i0 p0 hi0 hk0
    exact hno (d - c) i0 (by omega) (by rw [jw, show c + (d - c) = d by omega]; exact d3) ((at_ i0 p0 hi0).trans (by rw [show p0.2 = k from hk0, hH]))
/-- the search that adding asks for -/
theorem searchK0 (R : SetK P w s.heap a L es ep t) {x : Addr} {k : List Key} (hx : TupK P w s.heap k x) (hu : A.units < cLine) {Q : SetFound → Shared → Prop}
    (yes : k ∈ keysK L → Q (.there none) s)
    (no : ∀ K, k ∉ keysK L → way t.mask (hsK P w k) K ∉ t.place.toList → (∀ c, c < K → way t.mask (hsK P w k) c ∈ t.place.toList) → Q (.free (way t.mask (hsK P w k) K) false) s) :
    wpAny (model P w) A (setSearch a (.ref x) (hsK P w k) true) Q E s := by
  have rm := R.rom
  obtain ⟨K, hf, hK, hb⟩ := R.tbl.first (by rw [List.length_map]; omega) (hsK P w k)
  have big : K < 100000 := by
    refine Nat.lt_trans hf ?_
    unfold SetTable.turns
    rcases R.tbl.mok with e | e | e <;> rw [e] <;> decide
  unfold setSearch
  apply searchK R hx hu hf hK hb yes (fun hn => no K hn hK hb) 100000 0 none rfl (Nat.zero_le _) (by omega)
  intro i p hp hk
  have hl : i < t.place.toList.length := by
    have h1 := (List.getElem?_eq_some_iff.mp hp).1
    have h2 := R.tbl.sz
    rw [List.length_map] at h2
    rw [Array.length_toList]
    omega
  have hj := List.getElem?_eq_getElem hl
  have hi : (L.map fun p => hsK P w p.2)[i]? = some (hsK P w k) := by simp [hp, hk]
  obtain ⟨c, hc, e⟩ := R.tbl.before hK hi hj
  exact ⟨c, Nat.zero_le _, hc, by rw [hj, e]⟩

/-- a tuple stands while the set changes -/
theorem TupK.but {h h' : Heap} {k : List Key} {a b : Addr} {o : Obj} {es : Array (Int × Value)} {ep : Nat} {t : SetTable} (hb : TupK P w h k b) (ho : h.get? a = some o) (hd : o.data = .set es ep t) (hs : Heap.SameBut a h h') : TupK P w h' k b := by
  obtain ⟨u, its, n, h1, h2, h3, h4⟩ := hb
  have ne : b ≠ a := fun e => by
    subst e
    rw [h1] at ho
    cases ho
    rw [h3] at hd
    cases hd
  exact ⟨u, its, n, (hs.2 b ne).trans h1, h2, h3, h4⟩
theorem TupK.kept {h h' : Heap} {k : List Key} {b : Addr} (x : TupK P w h k b) (hk : ∀ c o, h.get? c = some o → h'.get? c = some o) : TupK P w h' k b := by
  obtain ⟨u, its, n, h1, r⟩ := x
  exact ⟨u, its, n, hk _ _ h1, r⟩
theorem ins_perm {α : Type} (L : List α) (p : Nat) (x : α) : (L.take p ++ x :: L.drop p).Perm (x :: L) :=
  List.perm_middle.trans (by rw [List.take_append_drop])
theorem range_get {α : Type} (L : List α) : (List.range L.length).filterMap (fun i => L[i]?) = L := by
  have key : ∀ n, n ≤ L.length → (List.range n).filterMap (fun i => L[i]?) = L.take n := by
    intro n
    induction n with
    | zero => exact fun _ => rfl
    | succ n ih =>
      intro hn
      have e := List.getElem?_eq_getElem (show n < L.length from hn)
      rw [List.range_succ, List.filterMap_append, ih (by omega), List.take_succ, e]
      simp [e]
  rw [key _ (Nat.le_refl _), List.take_length]
/-- the rows in another order -/
theorem rows_order (L : List Row) (es : Array (Int × Value)) (ord : Array Nat) (hr : es.toList = rowsK P w L) (hp : ord.toList.Perm (List.range L.length)) :
    ∃ L2, (ord.filterMap (es[·]?)).toList = rowsK P w L2 ∧ L2.Perm L ∧ (L2.map fun p => hsK P w p.2) = ord.toList.map fun i => (es.map (·.1)).getD i 0 := by
  have sz := rowsK_len hr
  have key : ∀ l : List Nat, (∀ i, i ∈ l → i < L.length) → l.filterMap (fun i => es[i]?) = rowsK P w (l.filterMap fun i => L[i]?) ∧
      ((l.filterMap fun i => L[i]?).map fun p => hsK P w p.2) = l.map fun i => (es.map (·.1)).getD i 0 := by
    intro l
    induction l with
    | nil => exact fun _ => ⟨rfl, rfl⟩
    | cons i l ih =>
      intro hl
      have hi := List.getElem?_eq_getElem (hl i List.mem_cons_self)
      obtain ⟨e1, e2⟩ := ih fun j hj => hl j (List.mem_cons_of_mem _ hj)
      have ee := rowsK_get hr hi
      constructor
      · rw [List.filterMap_cons_some ee, List.filterMap_cons_some hi, e1]
        rfl
      · rw [List.filterMap_cons_some hi, List.map_cons, List.map_cons, e2]
        have e3 : (es.map (·.1))[i]? = some (hsK P w (L[i]'(hl i List.mem_cons_self)).2) := by rw [Array.getElem?_map, ee]; rfl
        rw [show (es.map (·.1)).getD i 0 = hsK P w (L[i]'(hl i List.mem_cons_self)).2 by simp [Array.getD_eq_getD_getElem?, e3]]
  obtain ⟨e1, e2⟩ := key ord.toList fun i hi => List.mem_range.mp (hp.mem_iff.mp hi)
  refine ⟨ord.toList.filterMap fun i => L[i]?, ?_, ?_, e2⟩
  · rw [Array.toList_filterMap]
    exact e1
  · have z := hp.filterMap (fun i => L[i]?)
    rw [range_get] at z
    exact z

/-- the table laid anew -/
theorem relayK {o : Obj} (ho : s.heap.get? a = some o) (hex : o.ExactSet) (hd : o.data = .set es ep t) (hr : es.toList = rowsK P w L) (hsz : t.place.size = es.size) (hdm : t.dummies = #[]) (hfl : es.size ≤ t.mask)
    (uni : (keysK L).Nodup) (mem : ∀ p, p ∈ L → TupK P w s.heap p.2 p.1) (low : L.length < 64) {wn M : Nat}
    (hw : SetTable.sizeAbove wn - 1 = M) (hM : MaskOk M) (hw2 : SetTable.sizeAbove wn ≤ 128) (hn : L.length * 5 < M * 3) {Q : Unit → Shared → Prop}
    (q : ∀ h' L' es' ep' t', Heap.SameBut a s.heap h' → SetK P w h' a L' es' ep' t' → L'.Perm L → Q () { s with heap := h' }) : wpAny (model P w) A (setRelay a wn) Q E s := by
  have hsl := rowsK_len hr
  obtain ⟨t', ord, e, hp, T, em, _, _, _⟩ := relaid_ok t (hs := es.map (·.1)) (wanted := wn) hw hM (by rw [Array.size_map, hsl]; omega)
  rw [Array.size_map, hsl] at hp
  obtain ⟨L2, r1, r2, r3⟩ := rows_order L es ord hr hp
  have hs2 : (ord.filterMap (es[·]?)).size = L.length := by rw [rowsK_len r1, r2.length_eq]
  rw [← r3] at T
  rw [setRelay_eq]
  apply wpAny_bind (wpAny_setState_of ho hd (fits_of (m := 0) hdm hsz hfl) _)
  dsimp only
  apply wp_if_neg (by rw [sizeLine_eq]; omega)
  try apply wpAny_bind (wpAny_pure _)
  rw [e]
  dsimp only
  apply wpAny_bind
  apply wp_if_neg (by rw [hs2, hsl]; simp)
  try apply wpAny_bind (wpAny_pure _)
  apply wpAny_pure
  dsimp only
  apply wpAny_storeSet_of ho hd _ (by rw [hs2, sizeLine_eq]; omega)
  have sb : Heap.SameBut a s.heap (s.heap.update a (Obj.putSet (ord.filterMap (es[·]?)) t')) := Heap.SameBut.update ..
  apply q _ L2 (ord.filterMap (es[·]?)) (ep + 1) t' sb _ r2
  exact ⟨⟨_, store_at ho hd, ⟨hex.1, hex.2.1, hex.2.2⟩, rfl⟩, r1, T, (r2.map Prod.snd).nodup_iff.mpr uni, fun p hpm => TupK.but (mem p (r2.mem_iff.mp hpm)) ho hd sb, by rw [r2.length_eq, em]; exact hn, by rw [r2.length_eq]; exact low⟩

/-- a member more -/
theorem addK (R : SetK P w s.heap a L es ep t) {x : Addr} {k : List Key} (hx : TupK P w s.heap k x) (hu : A.units < cLine) (few : k ∉ keysK L → L.length + 1 < 64) {Q : Bool → Shared → Prop}
    (q : ∀ b h' L' es' ep' t', Heap.SameBut a s.heap h' → SetK P w h' a L' es' ep' t' → (k ∈ keysK L → L' = L) → (k ∉ keysK L → L'.Perm ((x, k) :: L)) → Q b { s with heap := h' }) :
    wpAny (model P w) A (setAddHashed a (.ref x) (hsK P w k)) Q E s := by
  obtain ⟨o, ho, hex, hd⟩ := R.obj
  have hsl := rowsK_len R.rws
  have rm := R.rom
  unfold setAddHashed
  apply wpAny_holding
  rw [show (100000 : Nat) = 99999 + 1 from rfl, setAddHashedIn_succ]
  apply wpAny_bind (wpAny_setState_of ho hd R.fit _)
  dsimp only
  apply wp_if_neg (by simp [byScan, Value.scannable])
  try apply wpAny_bind (wpAny_pure _)
  apply wpAny_bind (searchK0 R hx hu _ _)
  · intro hm
    dsimp only
    exact wpAny_pure (q false s.heap L es ep t (Heap.SameBut.refl a s.heap) R (fun _ => rfl) fun z => absurd hm z)
  intro K hm hK hb
  have few := few hm
  dsimp only
  apply wpAny_bind (wpAny_setState_of ho hd R.fit _)
  dsimp only
  obtain ⟨q1, q2, q3, q4, _, _, _, _, q9⟩ := R.tbl.put hK hb
  generalize hpt : t.put (way t.mask (hsK P w k) K) = pt at q1 q3 q4 q9 ⊢
  obtain ⟨t1, p⟩ := pt
  dsimp only at q1 q3 q4 q9 ⊢
  subst q1
  generalize hpp : SetTable.below t.place (way t.mask (hsK P w k) K) = p at *
  have ins : (SetTable.insertAt es p (hsK P w k, Value.ref x)).toList = rowsK P w (L.take p ++ (x, k) :: L.drop p) := by
    rw [SetTable.toList_insertAt, R.rws]
    simp [rowsK]
  have pm := ins_perm L p (x, k)
  have len1 : (L.take p ++ (x, k) :: L.drop p).length = L.length + 1 := pm.length_eq
  have T1 : TabOk t1 ((L.take p ++ (x, k) :: L.drop p).map fun p => hsK P w p.2) := by
    have e : (L.take p ++ (x, k) :: L.drop p).map (fun p => hsK P w p.2) = (L.map fun p => hsK P w p.2).take p ++ hsK P w k :: (L.map fun p => hsK P w p.2).drop p := by simp
    rw [e]
    exact q3
  have uni1 : (keysK (L.take p ++ (x, k) :: L.drop p)).Nodup := (pm.map Prod.snd).nodup_iff.mpr (List.nodup_cons.mpr ⟨hm, R.uni⟩)
  have sz1 := rowsK_len ins
  rw [len1] at sz1
  generalize SetTable.insertAt es p (hsK P w k, Value.ref x) = es1 at *
  generalize L.take p ++ (x, k) :: L.drop p = L1 at *
  have main : ∀ t2 : SetTable, t2.place = t1.place → t2.dummies = t1.dummies → t2.mask = t1.mask → t2.fill = t1.fill →
      wpAny (model P w) A (do
        storeSet a es1 t2
        if !false && t2.tooFull then setRelay a (SetTable.grown (es.size + 1))
        return true) Q E s := by
    intro t2 f1 f2 f3 f4
    have T2 : TabOk t2 (L1.map fun p => hsK P w p.2) := by
      obtain ⟨a1, a2, a3, a4, a5, a6⟩ := T1
      exact ⟨by rw [f1]; exact a1, by rw [f2]; exact a2, by rw [f1]; exact a3, by rw [f3]; exact a4, by rw [f1, f3]; exact a5, by rw [f1, f3]; exact a6⟩
    apply wpAny_bind (wpAny_storeSet_of ho hd _ (by rw [sz1, sizeLine_eq]; omega))
    have sb : Heap.SameBut a s.heap (s.heap.update a (Obj.putSet es1 t2)) := Heap.SameBut.update ..
    have ho1 := store_at (es' := es1) (t' := t2) ho hd
    generalize s.heap.update a (Obj.putSet es1 t2) = h1 at sb ho1 ⊢
    have mem1 : ∀ p, p ∈ L1 → TupK P w h1 p.2 p.1 := fun p hp => by
      rcases List.mem_cons.mp (pm.mem_iff.mp hp) with e | hp
      · rw [e]; exact TupK.but hx ho hd sb
      · exact TupK.but (R.mem p hp) ho hd sb
    have fl : t2.tooFull = decide (t2.fill * 5 ≥ t2.mask * 3) := rfl
    rw [f4, q9, List.length_map] at fl
    by_cases hf : t2.tooFull = true
    · rw [hf]
      rw [hf] at fl
      have full : (L.length + 1) * 5 ≥ t2.mask * 3 := of_decide_eq_true fl.symm
      have two : (t2.mask = 7 ∧ L.length = 4) ∨ (t2.mask = 31 ∧ L.length = 18) := by
        rw [f3, q4] at full ⊢
        rcases R.tbl.mok with e | e | e <;> rw [e] at full rm ⊢ <;> omega
      have go : ∀ M, SetTable.sizeAbove (SetTable.grown (L.length + 1)) - 1 = M → MaskOk M → SetTable.sizeAbove (SetTable.grown (L.length + 1)) ≤ 128 → (L.length + 1) * 5 < M * 3 →
          wpAny (model P w) A (setRelay a (SetTable.grown (L.length + 1))) (fun _ s' => wpAny (model P w) A (pure true) Q E s') E { s with heap := h1 } := by
        intro M a1 a2 a3 a4
        apply relayK (s := { s with heap := h1 }) ho1 ⟨hex.1, hex.2.1, hex.2.2⟩ rfl ins (by rw [T2.sz, List.length_map, len1, sz1]) T2.dm (by rw [sz1]; rcases two with ⟨e, e2⟩ | ⟨e, e2⟩ <;> omega) uni1 mem1 (by rw [len1]; exact few) a1 a2 a3 (by rw [len1]; exact a4)
        intro h2 L2 es2 ep2 t3 sb2 R2 pm2
        exact wpAny_pure (q true h2 L2 es2 ep2 t3 (sb.trans sb2) R2 (fun z => absurd z hm) fun _ => pm2.trans pm)
      simp only [Bool.not_false, Bool.and_self, if_true]
      apply wpAny_bind
      rw [hsl]
      rcases two with ⟨_, e2⟩ | ⟨_, e2⟩
      · exact go 31 (by rw [e2, size_20]) (.inr (.inl rfl)) (by rw [e2, size_20]; decide) (by omega)
      · exact go 127 (by rw [e2, size_76]) (.inr (.inr rfl)) (by rw [e2, size_76]; decide) (by omega)
    · have hf' : t2.tooFull = false := by simpa using hf
      rw [hf']
      rw [hf'] at fl
      have nf : ¬ (L.length + 1) * 5 ≥ t2.mask * 3 := of_decide_eq_false fl.symm
      simp only [Bool.and_false, Bool.false_eq_true, if_false]
      try apply wpAny_bind (wpAny_pure _)
      exact wpAny_pure (q true h1 L1 es1 (ep + 1) t2 sb ⟨⟨_, ho1, ⟨hex.1, hex.2.1, hex.2.2⟩, rfl⟩, ins, T2, uni1, mem1, by rw [len1]; omega, by rw [len1]; exact few⟩ (fun z => absurd z hm) fun _ => pm)
  by_cases hp : t1.plain = true
  · first
      | apply wp_if_pos hp (wpAny_bind (byValue_tupK hx _))
      | (apply wpAny_bind; apply wp_if_pos hp (byValue_tupK hx _))
    intro c
    cases c
    · exact main { t1 with plain := false } rfl rfl rfl rfl
    · exact main t1 rfl rfl rfl rfl
  · first
      | apply wp_if_neg hp (wpAny_bind (wpAny_pure _))
      | (apply wpAny_bind; apply wp_if_neg hp (wpAny_pure _))
    exact main t1 rfl rfl rfl rfl

/-- what the set has got from the first i items -/
structure Had (ks : List Row) (i : Nat) (L : List Row) : Prop where
  sub : ∀ p, p ∈ L → p ∈ ks.take i
  all : ∀ p, p ∈ ks.take i → p.2 ∈ keysK L
  len : L.length ≤ i
theorem Had.nil (ks : List Row) : Had ks 0 [] := ⟨fun _ h => (nomatch h), fun _ h => (by simp at h), Nat.le_refl _⟩
theorem take_one {α : Type} {l : List α} {i : Nat} {x : α} (h : l[i]? = some x) : l.take (i + 1) = l.take i ++ [x] := by
  simp [List.take_succ, h]
theorem Had.next {ks L L' : List Row} {i : Nat} {x : Row} (g : Had ks i L) (h : ks[i]? = some x) (c1 : x.2 ∈ keysK L → L' = L) (c2 : x.2 ∉ keysK L → L'.Perm (x :: L)) : Had ks (i + 1) L' := by
  by_cases c : x.2 ∈ keysK L
  · rw [c1 c]
    refine ⟨fun p hp => ?_, fun p hp => ?_, Nat.le_succ_of_le g.len⟩
    · rw [take_one h]
      exact List.mem_append_left _ (g.sub p hp)
    · rw [take_one h, List.mem_append, List.mem_singleton] at hp
      rcases hp with z | z
      · exact g.all p z
      · rw [z]; exact c
  · have pm := c2 c
    refine ⟨fun p hp => ?_, fun p hp => ?_, by rw [pm.length_eq]; exact Nat.succ_le_succ g.len⟩
    · rw [take_one h]
      rcases List.mem_cons.mp (pm.mem_iff.mp hp) with e | z
      · exact List.mem_append_right _ (by rw [e]; exact List.mem_singleton.mpr rfl)
      · exact List.mem_append_left _ (g.sub p z)
    · rw [keysK, (pm.map Prod.snd).mem_iff, List.map_cons]
      rw [take_one h, List.mem_append, List.mem_singleton] at hp
      rcases hp with z | z
      · exact List.mem_cons_of_mem _ (g.all p z)
      · rw [z]; exact List.mem_cons_self
theorem SetK.moved {h h' : Heap} (R : SetK P w h a L es ep t) (ha : ∀ o, h.get? a = some o → h'.get? a = some o) (ht : ∀ p, p ∈ L → TupK P w h' p.2 p.1) : SetK P w h' a L es ep t := by
  obtain ⟨o, ho, r⟩ := R.obj
  exact ⟨⟨o, ha o ho, r⟩, R.rws, R.tbl, R.uni, ht, R.rom, R.low⟩
/-- a new set's object -/
def set0 (b : Bool) : Obj := { cls := .type "set", dict := none, data := .set #[] 0 (.fresh 0 0 b) }
theorem setK_new {h : Heap} {b : Bool} (ho : h.get? a = some (set0 b)) : SetK P w h a [] #[] 0 (.fresh 0 0 b) :=
  ⟨⟨_, ho, ⟨rfl, rfl, rfl⟩, rfl⟩, rfl, ⟨List.Pairwise.nil, rfl, rfl, .inl rfl, fun _ hx => (nomatch hx), fun i z j hi => (by simp at hi)⟩, List.nodup_nil, fun _ hp => (nomatch hp), (by decide : 0 * 5 < 7 * 3), (by decide : 0 < 64)⟩

/-- few different ones -/
def Few (ks : List Row) : Prop := ∀ D : List (List Key), D.Nodup → (∀ k, k ∈ D → k ∈ keysK ks) → D.length < 64
theorem nodup_le {α : Type} [DecidableEq α] : ∀ (l D : List α), D.Nodup → (∀ x, x ∈ D → x ∈ l) → D.length ≤ l.length
  | [], D, _, h => by
    have : D = [] := List.eq_nil_iff_forall_not_mem.mpr fun z hz => by simpa using h z hz
    rw [this]
    exact Nat.le_refl _
  | a :: r, D, nd, h => by
    by_cases aD : a ∈ D
    · have e := nodup_le r (D.erase a) (nd.erase a) fun z hz => by
        rw [nd.mem_erase_iff] at hz
        exact (List.mem_cons.mp (h z hz.2)).elim (fun e => absurd e hz.1) id
      rw [List.length_erase_of_mem aD] at e
      rw [List.length_cons]
      omega
    · have e := nodup_le r D nd fun z hz => (List.mem_cons.mp (h z hz)).elim (fun e => absurd (by rw [← e]; exact hz) aD) id
      rw [List.length_cons]
      omega
theorem few_of {ks : List Row} (h : ks.length < 64) : Few ks := fun D nd hD => by
  have e := nodup_le (keysK ks) D nd hD
  have : (keysK ks).length = ks.length := by simp [keysK]
  omega
/-- the loop of set.update over a list of tuples -/
theorem loopK {I : Addr} {fp wr : List Addr} {G : Array GenState → Array GenState → Prop} {n : Nat} {Pv : Nat → Value → Prop} {St : Nat → Shared → Prop} {R : Result → Shared → Prop}
    (W : WalksS P w A.in1 I fp wr G n Pv St) (S : Addr) (nS : S ∉ fp) (ks : List Row) (hn : n = ks.length) (few : Few ks) (val : ∀ i v, Pv i v → ∃ p, ks[i]? = some p ∧ v = .ref p.1)
    (g0 : Heap) (hk : ∀ p, p ∈ ks → TupK P w g0 p.2 p.1) (n0 : g0.get? S = none) (w0 : ∀ b, b ∈ wr → g0.get? b = none) (hu : A.in1.units < cLine) :
    ∀ (m i : Nat) (s : Shared), n - i = m → i ≤ n → St i s → (∀ b o, g0.get? b = some o → s.heap.get? b = some o) → (∃ L es ep t, SetK P w s.heap S L es ep t ∧ Had ks i L) →
      (∀ s' L es ep t, Moved (S :: wr) G s s' → SetK P w s'.heap S L es ep t → Had ks n L → (∀ b o, g0.get? b = some o → s'.heap.get? b = some o) → R (.ok (.ret .none)) s') →
      codeAny (model P w) A (.builtin "set.update.loop" ⟨[.ref S, .ref I], []⟩) R s := by
  have sw : S ∉ wr := fun h => nS (W.sub _ h)
  have up : ∀ b, b ∈ wr → b ∈ S :: wr := fun b hb => List.mem_cons_of_mem _ hb
  have kp : ∀ {s s' : Shared}, Moved wr G s s' → (∀ b o, g0.get? b = some o → s.heap.get? b = some o) → ∀ b o, g0.get? b = some o → s'.heap.get? b = some o := fun hm h b o e =>
    hm.heap b o (fun hb => by rw [w0 b hb] at e; cases e) (h b o e)
  intro m
  induction m with
  | zero =>
    intro i s hm hi hst hkp ⟨L, es, ep, t, hS, g⟩ hR
    obtain rfl : i = n := by omega
    apply codeAny_builtin F.entry_set_update_loop
    rw [Around.under_plainId F.plain_set_update_loop _]
    show wpAny _ A.in1 (pyNext (.ref I) >>= _) _ _ s
    apply wpAny_bind (W.done s _ _ hst _)
    intro s' mv
    show wpAny _ A.in1 (ret Value.none) _ _ s'
    have k2 := kp mv hkp
    exact wpAny_pure (hR s' L es ep t (mv.mono up) (hS.moved (fun o e => mv.heap S o sw e) fun p hp => TupK.kept (hk p (List.mem_of_mem_take (g.sub p hp))) k2) g k2)
  | succ m ih =>
    intro i s hm hi hst hkp ⟨L, es, ep, t, hS, g⟩ hR
    have lt : i < n := by omega
    apply codeAny_builtin F.entry_set_update_loop
    rw [Around.under_plainId F.plain_set_update_loop _]
    show wpAny _ A.in1 (pyNext (.ref I) >>= _) _ _ s
    apply wpAny_bind (W.item i s _ _ lt hst _)
    intro v s' hP hst' mv
    obtain ⟨p, hp, rfl⟩ := val i v hP
    have k2 := kp mv hkp
    have hS' : SetK P w s'.heap S L es ep t := hS.moved (fun o e => mv.heap S o sw e) fun q hq => TupK.kept (hk q (List.mem_of_mem_take (g.sub q hq))) k2
    have hx : TupK P w s'.heap p.2 p.1 := TupK.kept (hk p (List.mem_of_getElem? hp)) k2
    show wpAny _ A.in1 (holding [Value.ref p.1] (setAdd S (.ref p.1)) >>= _) _ _ s'
    apply wpAny_bind (wpAny_holding _)
    unfold setAdd
    apply wpAny_holding
    apply wpAny_bind (wpAny_pyHash_tuple hu hx _)
    apply addK (s := { s' with toks := s'.toks + (p.2.length + 1) }) hS' hx hu (fun nk => by
      have z := few (keysK L ++ [p.2]) (by
        rw [List.nodup_append]
        refine ⟨hS'.uni, by simp, fun a ha b hb => ?_⟩
        rw [List.mem_singleton.mp hb]
        rintro rfl
        exact nk ha) fun k hk2 => by
        rcases List.mem_append.mp hk2 with hk2 | hk2
        · obtain ⟨q, hq, rfl⟩ := List.mem_map.mp hk2
          exact List.mem_map.mpr ⟨q, List.mem_of_mem_take (g.sub q hq), rfl⟩
        · rw [List.mem_singleton.mp hk2]
          exact List.mem_map.mpr ⟨p, List.mem_of_getElem? hp, rfl⟩
      have zl : (keysK L).length = L.length := by simp [keysK]
      rw [List.length_append, zl] at z
      exact z)
    intro b h' L' es' ep' t' sb hS2 c1 c2
    have k3 : ∀ b o, g0.get? b = some o → h'.get? b = some o := fun b o e => (sb.2 b (fun z => by rw [z, n0] at e; cases e)).trans (k2 b o e)
    have fr := W.frame (i + 1) s' h' (s'.toks + (p.2.length + 1)) hst' (Nat.le_add_right _ _) fun b hb o e => by
      rw [sb.2 b (fun h : b = S => nS (by rw [← h]; exact hb))]; exact e
    apply wpAny_pure
    refine ⟨plainId_quiet F.plain_set_update_loop _, ih (i + 1) _ (by omega) lt fr k3 ⟨L', es', ep', t', hS2, g.next hp c1 c2⟩ fun s'' L2 es2 ep2 t2 mv2 hS3 g3 k4 => ?_⟩
    refine hR s'' L2 es2 ep2 t2 (Moved.trans W.gtrans ((mv.mono up).then_heap (Nat.le_add_right _ _) fun b o hb e => ?_) mv2) hS3 g3 k4
    rw [sb.2 b fun h => hb (by rw [h]; exact List.mem_cons_self)]
    exact e

/-- what the loop of set(xs) does -/
structure SetLoop (P : Program) (w : World) (A : Around) (s : Shared) (l : Addr) (Post : Heap → Prop) : Prop where
  run : ∀ (led : Bool) (R : Result → Shared → Prop), (w.params.followText "set-order" = true ∨ led = true) → (∀ h' tk, Post h' → (∀ b o, s.heap.get? b = some o → h'.get? b = some o) → R (.ok (.ret .none)) { s with heap := h', toks := tk }) →
    codeAny (model P w) A.in1.in1 (.builtin "set.update.loop" ⟨[.ref s.heap.objs.size, .ref (s.heap.push (set0 led)).objs.size], []⟩) R
      { s with heap := (s.heap.push (set0 led)).push { cls := .type "list_iterator", data := .fields #[.ref l, .int 0 0] } }
structure SetGoal (s : Shared) (Post : Heap → Prop) (Q : Value → Shared → Prop) : Prop where
  out : ∀ (h' : Heap) (tk : Nat), Post h' → (∀ b o, s.heap.get? b = some o → h'.get? b = some o) → Q (.ref s.heap.objs.size) { s with heap := h', toks := tk }
/-- set(xs), by what its loop does -/
theorem call_set_gen {l : Addr} {its : Array Value} (Post : Heap → Prop) {Q : Value → Shared → Prop} (hl : s.heap.IsList l its) (loop : SetLoop P w A s l Post) (q : SetGoal s Post Q) :
    wpAny (model P w) A (call (.type "set") [.ref l]) Q E s := by
  obtain ⟨c, tl, hmro⟩ := F.called_set.mro
  have y1 := F.called_set.made
  have y2 := F.called_set.sub
  apply wpAny_call (codeAny_of_tree _)
  show wpAny _ _ (callAny (.type "set") _) _ _ _
  apply wpAny_pure
  refine ⟨Code.quiet_builtin _ (by decide +kernel), codeAny_builtin F.entry_type_call ?_⟩
  rw [Around.under_plain (weight_type_call_type "set" [.ref l] []) rfl]
  have y3 := F.called_set.notType
  have y4 := F.called_set.canCreate
  have y5 := F.typeCall_set_1 (.ref l)
  repeat (any_goals (first | assumption | wp_step))
  generalize hb : (!w.params.followText "set-order") = led at *
  have hled : w.params.followText "set-order" = true ∨ led = true := by
    rw [← hb]
    cases w.params.followText "set-order" <;> simp
  have z0 : ∀ b, s.heap.objs.size ≤ b → s.heap.get? b = none := fun b hb => by
    cases e : s.heap.get? b with
    | none => rfl
    | some o => exact absurd (Heap.lt_size e) (Nat.not_lt.mpr hb)
  have n1 : (s.heap.push (set0 led)).objs.size = s.heap.objs.size + 1 := Heap.size_push ..
  have g1 : (s.heap.push (set0 led)).get? s.heap.objs.size = some (set0 led) := Heap.get?_push_size _ rfl
  apply codeAny_mono (code_set_led1 (.ref l) (E := E) (Q₁ := fun obj s₁ => obj = .ref s.heap.objs.size ∧ s₁ = { s with heap := s.heap.push (set0 led) }) ⟨rfl, by rw [hb]; rfl⟩)
  intro r s₁ hr
  rcases r with e | fl
  · exact hr
  cases fl with
  | next => exact hr.elim
  | brk => exact hr.elim
  | cont => exact hr.elim
  | ret obj =>
  obtain ⟨rfl, rfl⟩ := hr
  have ty : Shared.TypeIs { s with heap := s.heap.push (set0 led) } (.ref s.heap.objs.size) "set" := ⟨_, g1, rfl⟩
  have x1 := F.called_set.init.lookup
  have x2 := F.called_set.init.bind (.ref s.heap.objs.size)
  repeat (any_goals (first | assumption | wp_step))
  apply codeAny_mono (codeAny_call_builtin (R := wants (fun r s₂ => r = .none ∧ ∃ h' tk, s₂ = { s with heap := h', toks := tk } ∧ Post h' ∧
    (∀ b o, s.heap.get? b = some o → h'.get? b = some o)) E) F.called_set.init.plain F.entry_set_init (check_set_init_1 ty _))
  · intro r₂ s₂ hr₂
    rcases r₂ with e | fl₂
    · exact hr₂
    cases fl₂ with
    | next => exact hr₂.elim
    | brk => exact hr₂.elim
    | cont => exact hr₂.elim
    | ret r =>
      obtain ⟨rfl, h', tk, rfl, g, k⟩ := hr₂
      repeat (any_goals (first | assumption | wp_step))
      exact q.out _ _ g k
  obtain ⟨⟨oc, od, odt, osl⟩, hol, hcl, nl, hdl⟩ := hl
  dsimp only at hcl hdl
  subst hcl hdl
  have ls : l < s.heap.objs.size := Heap.lt_size hol
  have g2 := Heap.get?_push_of_some (set0 led) hol
  have w1 := F.sub_list_set
  have w2 := F.sub_list_frozenset
  have w3 : (Value.type "list" == Value.type "dict") = false := by decide
  have hl1 : (s.heap.push (set0 led)).IsList l its := ⟨_, g2, rfl, nl, rfl⟩
  unfold Builtin.«set.__init__» noKeywords Builtin.Frozenset.updateFrom
  generalize hPI : pyIter = PI
  clear q y1 y2 y3 y4 y5 x1 x2 ty g1 z0 n1 hb
  wp_walk
  subst hPI
  apply wpAny_pyIter_list hl1
  apply wpAny_bind (wpAny_runValue _)
  refine loop.run led _ hled fun h' tk g k => ?_
  show wpAny _ _ _ _ _ _
  apply wpAny_pure
  show wpAny _ _ (ret Value.none) _ _ _
  exact wpAny_pure ⟨rfl, h', tk, rfl, g, k⟩
theorem no_above {h : Heap} {b : Addr} (hb : h.objs.size ≤ b) : h.get? b = none := by
  cases e : h.get? b with
  | none => rfl
  | some o => exact absurd (Heap.lt_size e) (Nat.not_lt.mpr hb)
/-- set(xs), xs a list of such tuples -/
theorem call_setK {l : Addr} {its : Array Value} (ks : List Row) {Q : Value → Shared → Prop} (hh : A.handled = none) (hl : s.heap.IsList l its) (hit : its.toList = ks.map fun p => Value.ref p.1)
    (hk : ∀ p, p ∈ ks → TupK P w s.heap p.2 p.1) (few : Few ks) (hu : A.units + 3 < cLine)
    (q : ∀ (h' : Heap) (tk : Nat) L es ep t, SetK P w h' s.heap.objs.size L es ep t → Had ks ks.length L → (∀ b o, s.heap.get? b = some o → h'.get? b = some o) → Q (.ref s.heap.objs.size) { s with heap := h', toks := tk }) :
    wpAny (model P w) A (call (.type "set") [.ref l]) Q E s := by
  have isz : its.size = ks.length := by
    have z : its.toList.length = (ks.map fun p => Value.ref p.1).length := by rw [hit]
    simpa using z
  refine call_set_gen (fun h' => ∃ L es ep t, SetK P w h' s.heap.objs.size L es ep t ∧ Had ks ks.length L) hl ⟨?_⟩ ⟨fun h' tk ⟨L, es, ep, t, hS, g⟩ k => q h' tk L es ep t hS g k⟩
  intro led R hled hR
  have n1 : (s.heap.push (set0 led)).objs.size = s.heap.objs.size + 1 := Heap.size_push ..
  have g1 : (s.heap.push (set0 led)).get? s.heap.objs.size = some (set0 led) := Heap.get?_push_size _ rfl
  have hl1 := hl.push (set0 led)
  have ls : l < s.heap.objs.size := by
    obtain ⟨o, ho, _⟩ := hl
    exact Heap.lt_size ho
  have h3 : A.in1.in1.in1.handled = none := by simp [hh]
  have nI : l ≠ (s.heap.push (set0 led)).objs.size := by
    rw [n1]
    exact Nat.ne_of_lt (Nat.lt_succ_of_lt ls)
  have val : ∀ (i : Nat) (v : Value), its[i]? = some v → ∃ p, ks[i]? = some p ∧ v = .ref p.1 := fun i v hv => by
    rw [← Array.getElem?_toList, hit, List.getElem?_map] at hv
    obtain ⟨p, e1, e2⟩ := Option.map_eq_some_iff.mp hv
    exact ⟨p, e1, e2.symm⟩
  refine loopK ((Walks.list h3 _ l nI its).toS) s.heap.objs.size ?n1 ks isz few val s.heap hk (no_above (Nat.le_refl _)) ?n2 hu (its.size - 0) 0 _ (by omega) (Nat.zero_le _)
    ⟨⟨_, Heap.get?_push_size _ rfl, rfl, rfl⟩, (hl1.push _)⟩ (fun b o e => Heap.get?_push_of_some _ (Heap.get?_push_of_some _ e)) ⟨[], #[], 0, _, setK_new (Heap.get?_push_of_some _ g1), Had.nil ks⟩ ?n3
  case n1 =>
    rw [n1]
    simp only [List.mem_cons, List.not_mem_nil, or_false, not_or]
    exact ⟨Nat.ne_of_lt (Nat.lt_succ_self _), Nat.ne_of_gt ls⟩
  case n2 =>
    intro b hb
    rw [List.mem_singleton.mp hb, n1]
    exact no_above (Nat.le_succ _)
  case n3 =>
    intro s' L es ep t mv hS g k
    obtain ⟨h', g2, d', tk', os'⟩ := s'
    obtain rfl : g2 = s.gens := mv.gens
    obtain rfl : d' = s.drawn := mv.drawn
    obtain rfl : os' = s.os := mv.os
    rw [isz] at g
    exact hR h' tk' ⟨L, es, ep, t, hS, g⟩ k
end

/-! ### len(set(xs)) as a rule of the layer -/
/-- how many different ones -/
def many {α : Type} [DecidableEq α] (l : List α) : Nat := l.eraseDups.length
section
variable {X : Cx}
theorem TupK.of {pins : List (Addr × Obj)} {σ : L2.St} {H : Hp} {s : Shared} (I : Inv X pins σ H s) {a : Addr} {k : List Key} (h : SqT X.K H a (k.map kV)) : TupK X.prog X.w s.heap k a := by
  obtain ⟨its, rv, ⟨o, h1, h2, n, h3⟩, z⟩ := I.tuple h
  refine ⟨o, its.toArray, n, h1, h2, h3, ?_⟩
  rw [List.toList_toArray]
  clear h1 h2 h3 h z
  induction k generalizing its with
  | nil =>
    cases rv
    exact .nil
  | cons x k ih =>
    cases rv with
    | cons r t =>
      refine .cons ?_ (ih _ t)
      cases x with
      | inl i =>
        obtain ⟨t, rfl⟩ := r
        exact keyIs_int i t
      | inr z =>
        obtain ⟨t, rfl⟩ := r
        exact keyIs_str z t
/-- F: that there are few -/
def tLenSetG (F : List Row → Prop) (K : PySem.W.Frag) (ta : TE) : TE := fun σ H Q => ta σ H fun x H1 => ∃ (l : Addr) (ks : List Row), x = V.ref l ∧ SqL K H1 l (ks.map fun p => V.ref p.1) ∧ (∀ p, p ∈ ks → SqT K H1 p.1 (p.2.map kV)) ∧ F ks ∧
  ∀ n : Nat, (∀ D : List (List Key), D.Nodup → (∀ k, k ∈ D ↔ k ∈ keysK ks) → D.length = n) → Q (.int n) H1
def tLenSetK (K : PySem.W.Frag) (ta : TE) : TE := tLenSetG (fun ks => ks.length < 64) K ta
theorem nodup_same {α : Type} : ∀ {l m : List α}, l.Nodup → m.Nodup → (∀ x, x ∈ l ↔ x ∈ m) → l.length = m.length := fun h1 h2 h =>
  ((List.perm_ext_iff_of_nodup h1 h2).mpr h).length_eq
theorem pe_lenSetG {F : List Row → Prop} (hF : ∀ ks, F ks → Few ks) {a : Expr} {ta : TE} {p p2 q pos : Pos} (hc : X.calm = true) (hg : Gl X "len") (hm : X.mg "len" = none) (hg2 : Gl X "set") (hm2 : X.mg "set" = none) (ha : PE X a ta) (hu : X.A.units + 64 < cLine)
    (na : starEach [a] X.env = (false, eval a X.env) :: starEach [] X.env := by rfl) : PE X (.Call (.Name "len" p) [.Call (.Name "set" p2) [a] [] q] [] pos) (tLenSetG F X.K ta) := by
  refine ⟨fun pins s σ H Q I h => ?_⟩
  apply Call_ (ld_blt I hg hm PySem.boot_len _)
  apply PyProof.Rows.callWith_builtin1 (PyProof.Rows.args_cons _ rfl) rfl rfl
  apply Call_ (ld_blt I hg2 hm2 PyProof.Rows.boot_set _)
  apply PyProof.Rows.callWith_type1 (PyProof.Rows.args_cons (thn (ha.run pins s σ H _ I h) _) na) na rfl
  rintro v s1 ⟨x, H1, I1, r1, l, ks, rfl, hl, hk, few, q1⟩
  apply PyProof.Rows.args_nil
  cases r1
  obtain ⟨its, rv, pl, hz⟩ := I1.list hl
  have e1 : its = ks.map fun p => Value.ref p.1 := by
    clear hl pl hz hk few q1 I1
    induction ks generalizing its with
    | nil =>
      cases rv
      rfl
    | cons p ks ih =>
      cases rv with
      | cons r t =>
        cases r
        rw [List.map_cons, ih _ t]
  apply call_setK ks (I1.ok.hd hc) pl.isList (by rw [List.toList_toArray, e1]) (fun p hp => TupK.of I1 (hk p hp)) (hF ks few) (by omega)
  intro h' tk L es ep t R g k
  apply PyProof.Rows.args_nil
  have I2 : Inv X pins σ H1 { s1 with heap := h', toks := tk } := I1.kept fun b o e => k b o e
  have ln := rowsK_len R.rws
  have hL : L.length = (keysK L).length := by simp [keysK]
  obtain ⟨o, ho, hex, hd⟩ := R.obj
  have fin := q1 L.length fun D h1 h2 => by
    rw [hL]
    refine nodup_same h1 R.uni fun x => ?_
    rw [h2, keysK, List.mem_map]
    constructor
    · rintro ⟨p, hp, rfl⟩
      exact g.all p (by rw [List.take_length]; exact hp)
    · intro hx
      obtain ⟨p, hp, rfl⟩ := List.mem_map.mp hx
      exact ⟨p, by have := g.sub p hp; rwa [List.take_length] at this, rfl⟩
  have lo := R.low
  exact call_len_set ho hex hd (SetK.fit (s := { s1 with heap := h', toks := tk }) R) (by rw [ln]; omega) ⟨.int L.length, H1, I2.tok _, ⟨_, by rw [ln]⟩, fin⟩
theorem pe_lenSetK {a : Expr} {ta : TE} {p p2 q pos : Pos} (hc : X.calm = true) (hg : Gl X "len") (hm : X.mg "len" = none) (hg2 : Gl X "set") (hm2 : X.mg "set" = none) (ha : PE X a ta) (hu : X.A.units + 64 < cLine)
    (na : starEach [a] X.env = (false, eval a X.env) :: starEach [] X.env := by rfl) : PE X (.Call (.Name "len" p) [.Call (.Name "set" p2) [a] [] q] [] pos) (tLenSetK X.K ta) := pe_lenSetG (F := fun ks => ks.length < 64) (fun _ h => few_of h) hc hg hm hg2 hm2 ha hu na
end
end Kx
/-! len(set(xs)), xs a list of texts. -/
namespace Kx
open PySem PySem.Spec PyProof.Rows L2
/-- how many different ones stand in a list -/
def cnt {α : Type} [DecidableEq α] : List α → Nat
  | [] => 0
  | x :: l => if x ∈ l then cnt l else cnt l + 1
section
variable {P : Program} {w : World} {A : Around} {E : Value → Shared → Prop} {s : Shared}
def inS (xs : List Str) (k : Str) : Bool := decide (k ∈ xs)
theorem cnt_rev_append {α : Type} [DecidableEq α] : ∀ (l : List α) (x : α), cnt (l ++ [x]) = if x ∈ l then cnt l else cnt l + 1
  | [], x => by simp [cnt]
  | y :: l, x => by
    have ih := cnt_rev_append l x
    by_cases h3 : y = x
    · subst h3
      by_cases h1 : y ∈ l <;> simp_all [cnt]
    · have h4 : ¬ x = y := fun e => h3 e.symm
      by_cases h1 : x ∈ l <;> by_cases h2 : y ∈ l <;> simp_all [cnt]
theorem cnt_le {α : Type} [DecidableEq α] : ∀ l : List α, cnt l ≤ l.length
  | [] => Nat.le_refl _
  | x :: l => by
    have := cnt_le l
    unfold cnt
    split <;> simp <;> omega
theorem loopS {I : Addr} {fp wr : List Addr} {G : Array GenState → Array GenState → Prop} {n : Nat} {Pv : Nat → Value → Prop} {St : Nat → Shared → Prop} {R : Result → Shared → Prop}
    (W : WalksS P w A.in1 I fp wr G n Pv St) (S : Addr) (nS : S ∉ fp) (xs : List Str) (hn : n = xs.length) (few : xs.length < 4000) (val : ∀ i v, Pv i v → ∃ x t, xs[i]? = some x ∧ v = .str x t)
    (g0 : Heap) (n0 : g0.get? S = none) (w0 : ∀ b, b ∈ wr → g0.get? b = none) :
    ∀ (m i : Nat) (s : Shared), n - i = m → i ≤ n → St i s → (∀ b o, g0.get? b = some o → s.heap.get? b = some o) → s.heap.SetOf (strKind P w) S (inS (xs.take i)) (cnt (xs.take i)) →
      (∀ s', Moved (S :: wr) G s s' → s'.heap.SetOf (strKind P w) S (inS xs) (cnt xs) → (∀ b o, g0.get? b = some o → s'.heap.get? b = some o) → R (.ok (.ret .none)) s') →
      codeAny (model P w) A (.builtin "set.update.loop" ⟨[.ref S, .ref I], []⟩) R s := by
  have sw : S ∉ wr := fun h => nS (W.sub _ h)
  have up : ∀ b, b ∈ wr → b ∈ S :: wr := fun b hb => List.mem_cons_of_mem _ hb
  have kp : ∀ {s s' : Shared}, Moved wr G s s' → (∀ b o, g0.get? b = some o → s.heap.get? b = some o) → ∀ b o, g0.get? b = some o → s'.heap.get? b = some o := fun hm h b o e =>
    hm.heap b o (fun hb => by rw [w0 b hb] at e; cases e) (h b o e)
  have stay : ∀ {h h' : Heap} {f : Str → Bool} {c : Nat}, h.SetOf (strKind P w) S f c → (∀ o, h.get? S = some o → h'.get? S = some o) → h'.SetOf (strKind P w) S f c := fun ⟨o, es, ep, tb, ho, r⟩ k => ⟨o, es, ep, tb, k o ho, r⟩
  intro m
  induction m with
  | zero =>
    intro i s hm hi hst hkp hS hR
    obtain rfl : i = n := by omega
    apply codeAny_builtin F.entry_set_update_loop
    rw [Around.under_plainId F.plain_set_update_loop _]
    show wpAny _ A.in1 (pyNext (.ref I) >>= _) _ _ s
    apply wpAny_bind (W.done s _ _ hst _)
    intro s' mv
    show wpAny _ A.in1 (ret Value.none) _ _ s'
    rw [hn, List.take_length] at hS
    exact wpAny_pure (hR s' (mv.mono up) (stay hS fun o e => mv.heap S o sw e) (kp mv hkp))
  | succ m ih =>
    intro i s hm hi hst hkp hS hR
    have lt : i < n := by omega
    apply codeAny_builtin F.entry_set_update_loop
    rw [Around.under_plainId F.plain_set_update_loop _]
    show wpAny _ A.in1 (pyNext (.ref I) >>= _) _ _ s
    apply wpAny_bind (W.item i s _ _ lt hst _)
    intro v s' hP hst' mv
    obtain ⟨x, t, hx, rfl⟩ := val i v hP
    have k2 := kp mv hkp
    have hS' := stay hS fun o e => mv.heap S o sw e
    have room : cnt (xs.take i) ≤ i := Nat.le_trans (cnt_le _) (by rw [List.length_take]; omega)
    show wpAny _ A.in1 (holding [Value.str x t] (setAdd S (.str x t)) >>= _) _ _ s'
    apply wpAny_bind (wpAny_holding _)
    unfold setAdd
    apply wpAny_holding
    apply wpAny_bind ((PySem.strKind P w).pyHash (k := x) (strKind_is _ _ _ _) _)
    apply wpAny_setAddHashed_of (knd := PySem.strKind P w) (s := { s' with toks := s'.toks + 1 }) (strKind_is _ _ _ _) rfl hS' (by unfold scanBound; omega)
    intro h' sb hS2
    have k3 : ∀ b o, g0.get? b = some o → h'.get? b = some o := fun b o e => (sb.2 b (fun z => by rw [z, n0] at e; cases e)).trans (k2 b o e)
    have fr := W.frame (i + 1) s' h' (s'.toks + 1) hst' (Nat.le_add_right _ _) fun b hb o e => by
      rw [sb.2 b (fun h : b = S => nS (by rw [← h]; exact hb))]; exact e
    have hS3 : h'.SetOf (PySem.strKind P w) S (inS (xs.take (i + 1))) (cnt (xs.take (i + 1))) := by
      refine SetOf_congr hS2 (fun k => ?_) ?_
      · rw [take_one hx]
        by_cases e : k = x <;> by_cases e2 : k ∈ xs.take i <;> simp [inS, e, e2]
      · rw [take_one hx, cnt_rev_append]
        by_cases e : x ∈ xs.take i <;> simp [inS, e]
    apply wpAny_pure
    refine ⟨plainId_quiet F.plain_set_update_loop _, ih (i + 1) _ (by omega) lt fr k3 hS3 fun s'' mv2 hS4 k4 => ?_⟩
    refine hR s'' (Moved.trans W.gtrans ((mv.mono up).then_heap (Nat.le_add_right _ _) fun b o hb e => ?_) mv2) hS4 k4
    rw [sb.2 b fun h => hb (by rw [h]; exact List.mem_cons_self)]
    exact e
/-- set(xs), xs a list of texts -/
theorem call_setS {l : Addr} {its : Array Value} (xs : List Str) {Q : Value → Shared → Prop} (hh : A.handled = none) (hl : s.heap.IsList l its) (hi : PyProof.Rows.StrsAre its.toList xs) (few : xs.length < 4000)
    (q : ∀ (h' : Heap) (tk : Nat), h'.SetOf (strKind P w) s.heap.objs.size (inS xs) (cnt xs) → (∀ b o, s.heap.get? b = some o → h'.get? b = some o) → Q (.ref s.heap.objs.size) { s with heap := h', toks := tk }) :
    wpAny (model P w) A (call (.type "set") [.ref l]) Q E s := by
  have isz : its.size = xs.length := by rw [← StrsAre.len_eq hi, Array.length_toList]
  refine call_set_gen (fun h' => h'.SetOf (strKind P w) s.heap.objs.size (inS xs) (cnt xs)) hl ⟨?_⟩ ⟨fun h' tk hS k => q h' tk hS k⟩
  intro led R hled hR
  have n1 : (s.heap.push (set0 led)).objs.size = s.heap.objs.size + 1 := Heap.size_push ..
  have g1 : (s.heap.push (set0 led)).get? s.heap.objs.size = some (set0 led) := Heap.get?_push_size _ rfl
  have hl1 := hl.push (set0 led)
  have ls : l < s.heap.objs.size := by
    obtain ⟨o, ho, _⟩ := hl
    exact Heap.lt_size ho
  have h3 : A.in1.in1.in1.handled = none := by simp [hh]
  have nI : l ≠ (s.heap.push (set0 led)).objs.size := by
    rw [n1]
    exact Nat.ne_of_lt (Nat.lt_succ_of_lt ls)
  have val : ∀ (i : Nat) (v : Value), its[i]? = some v → ∃ x t, xs[i]? = some x ∧ v = .str x t := fun i v hv => by
    rw [← Array.getElem?_toList] at hv
    have lt : i < xs.length := by
      rw [← isz, ← Array.length_toList]
      exact (List.getElem?_eq_some_iff.mp hv).1
    obtain ⟨t, e⟩ := SS.strs_at hi i v hv
    exact ⟨xs[i], t, List.getElem?_eq_getElem lt, by rw [e]; simp [List.getD, List.getElem?_eq_getElem lt]⟩
  refine loopS ((Walks.list h3 _ l nI its).toS) s.heap.objs.size ?n1 xs isz few val s.heap (no_above (Nat.le_refl _)) ?n2 (its.size - 0) 0 _ (by omega) (Nat.zero_le _)
    ⟨⟨_, Heap.get?_push_size _ rfl, rfl, rfl⟩, (hl1.push _)⟩ (fun b o e => Heap.get?_push_of_some _ (Heap.get?_push_of_some _ e)) ?n4 ?n3
  case n1 =>
    rw [n1]
    simp only [List.mem_cons, List.not_mem_nil, or_false, not_or]
    exact ⟨Nat.ne_of_lt (Nat.lt_succ_self _), Nat.ne_of_gt ls⟩
  case n2 =>
    intro b hb
    rw [List.mem_singleton.mp hb, n1]
    exact no_above (Nat.le_succ _)
  case n3 =>
    intro s' mv hS k
    obtain ⟨h', g2, d', tk', os'⟩ := s'
    obtain rfl : g2 = s.gens := mv.gens
    obtain rfl : d' = s.drawn := mv.drawn
    obtain rfl : os' = s.os := mv.os
    exact hR h' tk' hS k
  case n4 =>
    refine ⟨set0 led, #[], 0, .fresh 0 0 led, Heap.get?_push_of_some _ g1, ⟨rfl, rfl, rfl⟩, rfl, ?_⟩
    exact ⟨fun e he => (nomatch he), fun k => ⟨fun h => (by simp [inS] at h), fun ⟨e, he, _⟩ => (nomatch he)⟩, (by decide : 0 < scanBound), rfl, by simp [cnt]⟩
end
section
variable {X : Cx}
theorem sAre_of : ∀ {xs : List Str} {us : List Value}, Vals (xs.map V.str) us → StrsAre us xs
  | [], _, .nil => .nil
  | x :: xs, _, .cons r t => by
    obtain ⟨tk, rfl⟩ := r
    exact .cons x tk (sAre_of t)
def tLenSetT (K : PySem.W.Frag) (ta : TE) : TE := fun σ H Q => ta σ H fun x H1 => ∃ (l : Addr) (xs : List Str), x = V.ref l ∧ SqL K H1 l (xs.map V.str) ∧ xs.length < 4000 ∧ Q (.int (cnt xs : Nat)) H1
theorem pe_lenSetT {a : Expr} {ta : TE} {p p2 q pos : Pos} (hc : X.calm = true) (hg : Gl X "len") (hm : X.mg "len" = none) (hg2 : Gl X "set") (hm2 : X.mg "set" = none) (ha : PE X a ta)
    (na : starEach [a] X.env = (false, eval a X.env) :: starEach [] X.env := by rfl) : PE X (.Call (.Name "len" p) [.Call (.Name "set" p2) [a] [] q] [] pos) (tLenSetT X.K ta) := by
  refine ⟨fun pins s σ H Q I h => ?_⟩
  apply Call_ (ld_blt I hg hm PySem.boot_len _)
  apply PyProof.Rows.callWith_builtin1 (PyProof.Rows.args_cons _ rfl) rfl rfl
  apply Call_ (ld_blt I hg2 hm2 PyProof.Rows.boot_set _)
  apply PyProof.Rows.callWith_type1 (PyProof.Rows.args_cons (thn (ha.run pins s σ H _ I h) _) na) na rfl
  rintro v s1 ⟨x, H1, I1, r1, l, xs, rfl, hl, few, q1⟩
  apply PyProof.Rows.args_nil
  cases r1
  obtain ⟨its, rv, pl, hz⟩ := I1.list hl
  apply call_setS xs (I1.ok.hd hc) pl.isList (by rw [List.toList_toArray]; exact sAre_of rv) few
  intro h' tk ⟨o, es, ep, t, ho, hex, hd, _, _, _, hf, hn⟩ k
  apply PyProof.Rows.args_nil
  have I2 : Inv X pins σ H1 { s1 with heap := h', toks := tk } := I1.kept fun b o e => k b o e
  have le := cnt_le xs
  exact call_len_set ho hex hd hf (by rw [hn]; omega) ⟨.int (cnt xs : Nat), H1, I2.tok _, ⟨_, by rw [hn]⟩, q1⟩
end
end Kx
/-! Further rules of the layer. -/
namespace Kx
open PySem PySem.Spec PyProof.Rows L2
section
variable {X : Cx}
/-- a power of a great number -/
theorem op_powX : OpR X (binaryOp .Pow) (rI (fun i j => 0 ≤ j ∧ (Builtin.Int.intBits i : Int) * j ≤ 2 ^ 27) fun i j => .int (i ^ j.toNat)) :=
  opI fun _ _ _ _ _ _ _ hc q => pow_int hc.1 hc.2 q
/-- one item more than a list's -/
theorem meets_extend_tup (l : Addr) (items : Array Value) (n : Nat) (b : Addr) (items2 : Array Value) (n2 : Nat) (od : Option Addr) (osl : Array (Option Value)) (hs0 : ¬(!items.isEmpty && Builtin.List.listTooLong (items.size + items2.size)) = true) (hs1 : items.size ≤ sizeLine) (hs2 : items.size + items2.size ≤ sizeLine + 1) :
    Meets (Builtin.«list.extend» ⟨[.ref l, .ref b], []⟩) (fun _ R s => s.heap.get? l = some { cls := .type "list", dict := none, data := .seq items n, slots := #[] } ∧ s.heap.get? b = some { cls := .type "tuple", dict := od, data := .seq items2 n2, slots := osl } ∧
      R (.ok (.ret Value.none)) { s with heap := s.heap.update l (Obj.mapSeq fun x => x ++ items2), toks := s.toks }) :=
  .of_wp fun prog w A R s h => by
    obtain ⟨hp, g, d, tk, os⟩ := s
    obtain ⟨hl, hb, h⟩ := h
    have f1 := AutoSeq1.idx_int
    have f2 := AutoSeq1.sub_tuple_tuple
    have f3 := AutoSeq1.sub_list_list
    have f4 := AutoSeq1.sub_tuple_list
    have f5 := AutoSeq1.sub_list_tuple
    have hz' : (items ++ items2).size ≤ sizeLine + 1 := by
      rw [Array.size_append]
      exact hs2
    wp_walk using (wpAny_updateSeq hl rfl (hz := hs1) (_hz' := hz')), AutoSeq1.wpAny_loadPart' hl, AutoSeq1.wpAny_loadPart' hb
    exact ⟨_, rfl, h⟩
/-- xs.extend(t), t a tuple -/
def rExtT (K : PySem.W.Frag) : V → List V → Hp → VK → Prop := fun x vs H Q => ∃ l b xs zs, x = .ref l ∧ vs = [.ref b] ∧ H l = some (.lst xs) ∧ SqT K H b zs ∧ xs.length + zs.length ≤ sizeLine ∧ Q .non (upd H l (.lst (xs ++ zs)))
theorem mt_extT : MtM X "list.extend" (rExtT X.K) := by
  intro pins s σ H x vs v us Q I rx rv h
  obtain ⟨l, b, xs, zs, rfl, rfl, hH, hB, hz, q⟩ := h
  cases rx
  obtain ⟨u, rfl, ru⟩ := rv.one
  cases ru
  obtain ⟨z, its, n, r, hl, e⟩ := I.lstM hH
  obtain ⟨its2, r2, ⟨⟨oc, od, odt, osl⟩, e2, hc, n2, hd⟩, z2⟩ := I.tuple hB
  dsimp only at hc hd
  subst hc hd
  have sz : its.toArray.size + its2.toArray.size ≤ sizeLine := by
    rw [List.size_toArray, List.size_toArray, ← r.length, ← r2.length]
    exact hz
  refine call_meets F.slot_list_extend ⟨_, e, rfl⟩ F.entry_list_extend (F.args_list_extend_2 _ _)
    (meets_extend_tup l its.toArray n b its2.toArray n2 od osl ?_ ?_ ?_) ⟨e, e2, ?_⟩
  · rw [notLongL sz, Bool.and_false]
    exact Bool.false_ne_true
  · omega
  · omega
  · refine ⟨.non, _, I.lset (its' := its ++ its2) hH e (by simp) (r.append r2) ?_, rfl, q⟩
    rw [List.length_append]
    exact hz
end
end Kx
/-! Defs that are called where no repr runs: the layer's promise of a def, with that told. -/
namespace Kx
open PySem PySem.Spec PyProof.Rows L2
/-- nothing around A shows itself -/
def Calm (A : Around) : Prop := A.guards = some []
/-- as FnOk, where nothing around shows itself -/
structure FnG (P : Program) (w : World) (K : PySem.W.Frag) (mg : Str → Option Value) (base : Heap) (k : Nat) (f : Addr) (fd : FuncData) (ps : List Str) (sp : Sp) : Prop where
  len : ∀ vs H Q E, sp vs H Q E → vs.length = ps.length
  run : ∀ (A : Around) (outer : List Env) (s : Shared) (H : Hp) (args : Args) (us : List Value) (vs : List V) (Q : VK) (E : XK), Calm A → Room k A → Env0 P w K mg base A outer s H → BindsTo s fd args (ps.zip us) → Vals vs us → sp vs H Q E →
    codeAny (model P w) A (.call (.ref f) args) (CR CX0 outer P w H s Q E) s
theorem calm_deeper {A : Around} {env : Env} (h : Calm A) : Calm (A.deeper env) := by
  unfold Calm at *
  show (A.deeper env).guards = some []
  simp [Around.deeper, h]
section
variable {P : Program} {w : World} {K : PySem.W.Frag} {mg : Str → Option Value} {base : Heap}
theorem fnG_mono {j k : Nat} {f : Addr} {fd : FuncData} {ps : List Str} {sp : Sp} (F : FnG P w K mg base j f fd ps sp) (h : j ≤ k) : FnG P w K mg base k f fd ps sp :=
  ⟨F.len, fun A outer s H args us vs Q E c hr => F.run A outer s H args us vs Q E c (hr.mono h)⟩
/-- THE RULE: a def of the text by its body -/
theorem okG {x qual : Str} {st : Stmt} {f : Addr} {fd : FuncData} {N ps : List Str} {k : Nat} {sp : Sp} (F : Fun K x qual st f fd) (S : FnScope N ps (defScope st)) (len : ∀ vs H Q E, sp vs H Q E → vs.length = ps.length)
    (hbody : ∀ (cdv : Value) (A : Around) (outer : List Env) (s : Shared) (H : Hp) (vs : List V) (Q : VK) (E : XK), Calm (A.deeper (envOfC qual (defScope st) s.heap.objs.size f cdv)) → Room k (A.deeper (envOfC qual (defScope st) s.heap.objs.size f cdv)) → sp vs H Q E →
      ∃ t, PSs (cxOf CX0 P w K mg base N qual (defScope st) f cdv A outer s H E).nox (defBody st) t ∧ t { nx := fun _ H' => Q .non H', rt := Q } (start N vs) H) : FnG P w K mg base (k + 1) f fd ps sp := by
  obtain ⟨oc, od, kV, doc, pm, an, cdv, ct, osl, rfl, lk, hcd⟩ := F.ex
  constructor
  · exact len
  intro A outer s H args us vs Q E cm hr e0 hb r hsp
  have nl := len _ _ _ _ hsp
  have kin : K.In s.heap := e0.mod.kin.keeps fun b o e => (e0.bs b o e).1
  have lim : s.heap.NoLimit := e0.mod.nolimit.keeps fun b o e => (e0.bs b o e).1
  refine codeAny_call_function hr.depth (kin _ _ lk) rfl S.co S.gen rfl (PySem.W.codeRec_of kin hcd) (hb _ _ _ _ (wpAny_newFunctionEnv_cells S.kind ?_ ?_))
  · rintro ⟨n, v⟩ hy
    rcases S.par n (List.of_mem_zip hy).1 with q | q
    · exact .inl q
    · exact .inr ⟨q, PySem.W.cellsFrom_some _ _ _ (.inl q)⟩
  rintro env rfl s1 x
  refine ⟨lim.keeps x.toInCall.keep, codeAny_func ?_⟩
  obtain ⟨t, ht, hq⟩ := hbody cdv A outer s H vs Q E (calm_deeper cm) (hr.deeper _) hsp
  have J0 := inv_start (CX := CX0) (f := f) (cd := cdv) (E := E) (qual := qual) S hr.hd e0 nl r x
  refine wpAny_mono (ht.nox.run [] s1 _ H _ J0 hq) ?_ fun e s' hs => hs
  intro fl s' hs
  rcases fl with _ | _ | _ | u
  · obtain ⟨σ', H', J, q⟩ := hs
    exact ⟨.non, H', J.os, J.bare, J.base, J.hok, rfl, q⟩
  · obtain ⟨_, _, _, q⟩ := hs
    exact q.elim
  · obtain ⟨_, _, _, q⟩ := hs
    exact q.elim
  · obtain ⟨v, σ', H', J, rv, q⟩ := hs
    exact ⟨v, H', J.os, J.bare, J.base, J.hok, rv, q⟩
end
section
variable {X : Cx} {k : Nat} {f : Addr} {fd : FuncData} {ps : List Str} {sp : Sp} {x : Str} {p pos : Pos} {e : Expr} {es : List Expr} {t : TA} {ds : List Value} {dvs : List V} {E : XK}
/-- f(e, ..) for such a def -/
theorem pe_callG (F : FnG X.prog X.w X.K X.mg X.base k f fd ps sp) (cm : Calm X.A) (hr : Room k X.A) (hg : Gl X x) (hm : X.mg x = some (.ref f)) (hk : PySem.W.keepIn X.K (.ref f) = true) (hb : Binds X.K fd ps [])
    (ha : PA X (e :: es) t) (hdb : (x == ("__debug__" : Str)) = false := by decide) (he : starEach (e :: es) X.env = (false, eval e X.env) :: starEach es X.env := by rfl) (hpl : (backTo pos (starEach es X.env)).any (·.1) = false := by rfl) :
    PE X (.Call (.Name x p) (e :: es) [] pos) (tCall sp [] E0 t) := by
  refine ⟨fun pins s σ H Q I h => wpAny_Call_Name_kw (ld_glob I hg hm ?_ hdb)⟩
  refine PySem.W.callWith_K (h₀ := X.base) I.ok.mod.kin hk (thn (ha.run pos pins s σ H _ I h) ?_) he hpl
  rintro us s1 ⟨vs, H1, I1, r, q⟩
  refine ⟨I1.kIn, ?_⟩
  rw [List.append_nil] at q
  have hl : us.length = ps.length := by
    rw [← r.length]
    exact F.len _ _ _ _ q
  have hb' := hb s1 us I1.kIn (by rw [List.append_nil]; exact hl)
  rw [List.append_nil] at hb'
  refine wpAny_call (codeAny_mono (F.run X.A X.stack s1 H1 ⟨us, []⟩ us vs Q E0 cm hr I1.env0 hb' r q) ?_)
  intro r2 s' hq
  rcases r2 with z | fl
  · exact hq.elim
  rcases fl with _ | _ | _ | u
  · exact hq.elim
  · exact hq.elim
  · exact hq.elim
  · exact I1.after hq
end

section
variable {P : Program} {w : World} {K : PySem.W.Frag} {mg mb : Str → Option Value} {k : Nat} {fa a : Addr} {fd : FuncData} {x : Str} {sp : Sp} {s₁ : Shared} {vs : List Value} {ns : List Int}
/-- what the law's call starts from, over an abstract heap H in which the script alone may stand -/
theorem law_from {H : Hp} (hO : Only H) (hS : SqL K H a (ns.map V.int)) (hok : HOk P w H s₁.heap) (hA : ∀ b, H b ≠ none → b = a) (hK : H a ≠ none → K.lookup a = none)
    (KX : K.In s₁.heap) (hns : s₁.heap.Ns mainGlobals mg) (hb : s₁.heap.Ns builtinsNs mb) (hbb : ∀ x : Str, x ≠ "__name__" → mb x = bootBuiltins x) (hlim : s₁.heap.NoLimit) (hg : s₁.gens = #[])
    (ha : s₁.heap.get? a = some { cls := .type "list", data := .seq vs.toArray }) (hr : Room k callerA)
    (F : ∀ base : Heap, K.In base → base.Ns mainGlobals mg → FnG P w K mg base k fa fd [x] sp) (hbind : ∀ (s : Shared) (u : Value), BindsTo s fd ⟨[u], []⟩ [(x, u)])
    (hsp : sp [.ref a] H (fun v _ => v = .bl true) fun _ _ _ => False) :
    codeAny (model P w) callerA (.call (.ref fa) ⟨[.ref a], []⟩) (fun r s' => r = .ok (.ret (.bool true)) ∧ OldK s₁.heap s'.heap ∧ s'.os = s₁.os ∧ AllBare s'.gens) s₁ := by
  have hid : ∀ {b o}, s₁.heap.get? b = some o → H b = none → (hidT s₁.heap H).get? b = some o := fun e n => hidT_get e n
  have free : ∀ {b : Addr} {o : Obj} {es : Array DictEntry} {ep : Nat}, s₁.heap.get? b = some o → o.data = .dict es ep → H b = none := by
    intro b o es ep e d
    cases q : H b with
    | none => rfl
    | some u =>
      have z := hA b (by simp [q])
      subst z
      rw [ha] at e
      cases e
      cases d
  have ns_of : ∀ {b : Addr} {m : Str → Option Value}, s₁.heap.Ns b m → (hidT s₁.heap H).Ns b m := by
    rintro b m ⟨o, es, ep, e, d, r⟩
    exact ⟨o, es, ep, hid e (free e d), d, r⟩
  have kin : K.In (hidT s₁.heap H) := by
    intro b o e
    refine hid (KX b o e) ?_
    cases q : H b with
    | none => rfl
    | some u =>
      have z := hA b (by simp [q])
      subst z
      rw [hK (by simp [q])] at e
      cases e
  have md : Mod K mg (hidT s₁.heap H) := by
    obtain ⟨mc, h1, h2⟩ := hlim
    exact ⟨kin, ns_of hns, ⟨mb, ns_of hb, hbb⟩, mc, ns_of h1, h2⟩
  have e0 : Env0 P w K mg (hidT s₁.heap H) callerA [] s₁ H := ⟨rfl, md, fun b o e => of_hidT e, Nat.le_of_eq (hidT_size _ _), trivial, fun b hb => (nomatch (show b ∈ ([] : List Addr) from hb)), hok, .of_eq hg⟩
  refine codeAny_mono ((F _ kin (ns_of hns)).run callerA [] s₁ H ⟨[.ref a], []⟩ [Value.ref a] [V.ref a] (fun v _ => v = .bl true) (fun _ _ _ => False) rfl hr e0 (hbind s₁ (.ref a)) (.cons rfl .nil) hsp) ?_
  intro r s' h
  rcases r with e | fl
  · exact h.elim
  rcases fl with _ | _ | _ | u
  · exact h.elim
  · exact h.elim
  · exact h.elim
  obtain ⟨v, H', os, bare, un, hok', r', q⟩ := h
  obtain rfl : v = .bl true := q
  obtain rfl : u = Value.bool true := r'
  refine ⟨rfl, OldK.of_keep fun b o e => ?_, os, bare⟩
  cases q : H b with
  | none => exact un.keep b o e q (fun z => (nomatch (show b ∈ ([] : List Addr) from z))) (fun z => nomatch z)
  | some u =>
    rcases hO b with z | ⟨ob, xs, z⟩
    · rw [q] at z
      cases z
    · obtain ⟨e1, _⟩ := hok b _ z
      obtain ⟨e2, _⟩ := hok' b _ (un.frzs b ob _ z)
      rw [e] at e1
      cases e1
      exact e2
theorem law_callG (KX : K.In s₁.heap) (hns : s₁.heap.Ns mainGlobals mg) (hb : s₁.heap.Ns builtinsNs mb) (hbb : ∀ x : Str, x ≠ "__name__" → mb x = bootBuiltins x) (hlim : s₁.heap.NoLimit) (hg : s₁.gens = #[])
    (ha : s₁.heap.get? a = some { cls := .type "list", data := .seq vs.toArray }) (hi : IntsAre vs ns) (hl : ns.length ≤ sizeLine) (hr : Room k callerA)
    (F : ∀ base : Heap, K.In base → base.Ns mainGlobals mg → FnG P w K mg base k fa fd [x] sp) (hbind : ∀ (s : Shared) (u : Value), BindsTo s fd ⟨[u], []⟩ [(x, u)])
    (hsp : ∀ H : Hp, Only H → SqL K H a (ns.map V.int) → sp [.ref a] H (fun v _ => v = .bl true) fun _ _ _ => False) :
    codeAny (model P w) callerA (.call (.ref fa) ⟨[.ref a], []⟩) (fun r s' => r = .ok (.ret (.bool true)) ∧ OldK s₁.heap s'.heap ∧ s'.os = s₁.os ∧ AllBare s'.gens) s₁ := by
  have rv := vals_ints hi
  have nv := hi.length
  cases hk : K.lookup a with
  | some o =>
    have e := KX a o hk
    rw [ha] at e
    cases e
    have S : SqL K (fun _ => none) a (ns.map V.int) := .inr ⟨_, vs.toArray, _, hk, rfl, rfl, rfl, by rw [List.size_toArray, nv]; exact hl, by simpa using rv⟩
    have O : Only (fun _ => none) := fun _ => .inl rfl
    exact law_from (H := fun _ => none) O S (fun b u z => (by cases (show (none : Option HO) = some u from z))) (fun b z => absurd rfl z) (fun z => absurd rfl z) KX hns hb hbb hlim hg ha hr F hbind (hsp _ O S)
  | none =>
    let ob : Obj := { cls := .type "list", data := .seq vs.toArray }
    let H : Hp := fun b => if b = a then some (.frz ob (.lst (ns.map V.int))) else none
    have at_ : H a = some (.frz ob (.lst (ns.map V.int))) := if_pos rfl
    have off : ∀ b, b ≠ a → H b = none := fun b h => if_neg h
    have S : SqL K H a (ns.map V.int) := .inl (.inr ⟨ob, at_⟩)
    have O : Only H := fun b => by
      by_cases h : b = a
      · subst h
        exact .inr ⟨_, _, at_⟩
      · exact .inl (off b h)
    refine law_from O S (fun b u z => ?_) (fun b z => ?_) (fun _ => hk) KX hns hb hbb hlim hg ha hr F hbind (hsp _ O S)
    · by_cases h : b = a
      · subst h
        rw [at_] at z
        cases z
        exact ⟨ha, by rw [List.length_map]; exact hl, vs, _, rv, ha⟩
      · rw [off b h] at z
        cases z
    · by_cases h : b = a
      · exact h
      · exact absurd (off b h) z
end
/-- as walk_of, for such a law -/
theorem walk_ofG {l : PySem.W.OpenLaw} {n k : Nat} {q : Program} {loose : List Str} {XP : (Str → Option Value) → Heap → Prop} {YP : World → Heap → Prop} {d : DefRec} {K : Params → PySem.W.Frag} {sp : World → Sp} {x : Str}
    (hn : l.most = some n) (hn2 : n ≤ sizeLine) (hdf : d.params.defaults = []) (hr : Room k callerA) (hY : ∀ (w : World) (h : Heap), YP w h → (K w.params).In h)
    (F : ∀ (w : World) (mg : Str → Option Value) (fa : Addr) (h : Heap), (K w.params).In h → h.Ns mainGlobals mg → mg d.name = some (.ref fa) →
      ∃ fd : FuncData, (∀ (s : Shared) (u : Value), BindsTo s fd ⟨[u], []⟩ [(x, u)]) ∧ ∀ base : Heap, (K w.params).In base → base.Ns mainGlobals mg → FnG l.prog w (K w.params) mg base k fa fd [x] (sp w))
    (hsp : ∀ (w : World) (H : Hp) (a : Addr) (ns : List Int), ns.length ≤ n → Only H → SqL (K w.params) H a (ns.map V.int) → sp w [.ref a] H (fun v _ => v = .bl true) fun _ _ _ => False) :
    PySem.W.WalkO q loose XP YP l.row.toRowW d [] (fun f vs => PySem.call f vs) := by
  refine Att.attach_call hn hdf ?_
  intro w s₀ s₁ mg mb fa o pm cd doc a vs ns G Y ho hd hcd hmg hobj hints hlen hg
  have KX := hY w _ Y
  obtain ⟨fd, hb, hF⟩ := F w mg fa _ KX G.T.g hmg
  exact law_callG KX G.T.g G.T.b G.T.builtins G.T.nolimit hg hobj hints (Nat.le_trans hlen hn2) hr hF hb fun H hO hS => hsp w H a ns hlen hO hS
end Kx
/-! The text by places, and what its top leaves. Made by mkbase.py. -/
namespace K12
open PySem PySem.Spec PyProof.Rows L2 Kx
def top (i : Nat) : Stmt := PySem.Challenge.pw_shownpart_k12_cuts_and_changes.main.body.getD i (.Pass ⟨0, 0, 0, 0⟩)
abbrev s_preorder : Stmt := top 1
abbrev N_preorder : List Str := ["terms", "found", "waiting", "part"]
theorem sc_preorder : FnScope N_preorder ["terms"] (defScope s_preorder) := ⟨rfl, rfl, rfl, by decide +kernel, rfl, by decide +kernel, by decide +kernel⟩
abbrev s_written : Stmt := top 2
abbrev N_written : List Str := ["term", "words", "waiting", "part", "below"]
theorem sc_written : FnScope N_written ["term"] (defScope s_written) := ⟨rfl, rfl, rfl, by decide +kernel, rfl, by decide +kernel, by decide +kernel⟩
abbrev s_numbered : Stmt := top 3
abbrev N_numbered : List Str := ["parts"]
theorem sc_numbered : FnScope N_numbered ["parts"] (defScope s_numbered) := ⟨rfl, rfl, rfl, by decide +kernel, rfl, by decide +kernel, by decide +kernel⟩
abbrev s_numbered_rows : Stmt := top 4
abbrev N_numbered_rows : List Str := ["parts", "table", "ready", "numbers", "part", "below", "number", "_"]
theorem sc_numbered_rows : FnScope N_numbered_rows ["parts"] (defScope s_numbered_rows) := ⟨rfl, rfl, rfl, by decide +kernel, rfl, by decide +kernel, by decide +kernel⟩
abbrev s_put_in : Stmt := top 5
abbrev N_put_in : List Str := ["term", "old", "new", "many", "parts", "numbers", "ready", "k", "below", "_"]
theorem sc_put_in : FnScope N_put_in ["term", "old", "new"] (defScope s_put_in) := ⟨rfl, rfl, rfl, by decide +kernel, rfl, by decide +kernel, by decide +kernel⟩
abbrev s_with_names : Stmt := top 6
abbrev N_with_names : List Str := ["term", "names", "ready", "part", "below", "_"]
theorem sc_with_names : FnScope N_with_names ["term", "names"] (defScope s_with_names) := ⟨rfl, rfl, rfl, by decide +kernel, rfl, by decide +kernel, by decide +kernel⟩
abbrev s_is_name : Stmt := top 16
abbrev N_is_name : List Str := ["value"]
theorem sc_is_name : FnScope N_is_name ["value"] (defScope s_is_name) := ⟨rfl, rfl, rfl, by decide +kernel, rfl, by decide +kernel, by decide +kernel⟩
abbrev s_is_term : Stmt := top 17
abbrev N_is_term : List Str := ["value"]
theorem sc_is_term : FnScope N_is_term ["value"] (defScope s_is_term) := ⟨rfl, rfl, rfl, by decide +kernel, rfl, by decide +kernel, by decide +kernel⟩
abbrev s_check_term : Stmt := top 18
abbrev N_check_term : List Str := ["value"]
theorem sc_check_term : FnScope N_check_term ["value"] (defScope s_check_term) := ⟨rfl, rfl, rfl, by decide +kernel, rfl, by decide +kernel, by decide +kernel⟩
abbrev s_check_renaming : Stmt := top 19
abbrev N_check_renaming : List Str := ["places", "names", "name"]
theorem sc_check_renaming : FnScope N_check_renaming ["places", "names"] (defScope s_check_renaming) := ⟨rfl, rfl, rfl, by decide +kernel, rfl, by decide +kernel, by decide +kernel⟩
abbrev s_joint_places : Stmt := top 20
abbrev N_joint_places : List Str := ["values", "places", "waiting", "part", "many"]
theorem sc_joint_places : FnScope N_joint_places ["values"] (defScope s_joint_places) := ⟨rfl, rfl, rfl, by decide +kernel, rfl, by decide +kernel, by decide +kernel⟩
abbrev s_has_form : Stmt := top 21
abbrev N_has_form : List Str := ["value"]
theorem sc_has_form : FnScope N_has_form ["value"] (defScope s_has_form) := ⟨rfl, rfl, rfl, by decide +kernel, rfl, by decide +kernel, by decide +kernel⟩
abbrev s_is_fact : Stmt := top 23
abbrev N_is_fact : List Str := ["value", "pairs", "keys", "pair", "key", "further"]
theorem sc_is_fact : FnScope N_is_fact ["value"] (defScope s_is_fact) := ⟨rfl, rfl, rfl, by decide +kernel, rfl, by decide +kernel, by decide +kernel⟩
abbrev s_cut : Stmt := top 24
abbrev N_cut : List Str := ["fact", "second", "rest", "result", "pair"]
theorem sc_cut : FnScope N_cut ["fact", "second"] (defScope s_cut) := ⟨rfl, rfl, rfl, by decide +kernel, rfl, by decide +kernel, by decide +kernel⟩
abbrev s_changed : Stmt := top 25
abbrev N_changed : List Str := ["fact", "old", "new", "couples", "conclusion", "one", "other"]
theorem sc_changed : FnScope N_changed ["fact", "old", "new"] (defScope s_changed) := ⟨rfl, rfl, rfl, by decide +kernel, rfl, by decide +kernel, by decide +kernel⟩
abbrev s_fact_renamed : Stmt := top 26
abbrev N_fact_renamed : List Str := ["fact", "names"]
theorem sc_fact_renamed : FnScope N_fact_renamed ["fact", "names"] (defScope s_fact_renamed) := ⟨rfl, rfl, rfl, by decide +kernel, rfl, by decide +kernel, by decide +kernel⟩
abbrev s_fact_renamed_by : Stmt := top 27
abbrev N_fact_renamed_by : List Str := ["fact", "names", "couples", "conclusion", "one", "other"]
theorem sc_fact_renamed_by : FnScope N_fact_renamed_by ["fact", "names"] (defScope s_fact_renamed_by) := ⟨rfl, rfl, rfl, by decide +kernel, rfl, by decide +kernel, by decide +kernel⟩
abbrev s_check_fact : Stmt := top 28
abbrev N_check_fact : List Str := ["value"]
theorem sc_check_fact : FnScope N_check_fact ["value"] (defScope s_check_fact) := ⟨rfl, rfl, rfl, by decide +kernel, rfl, by decide +kernel, by decide +kernel⟩
abbrev s_is_couple : Stmt := top 29
abbrev N_is_couple : List Str := ["value"]
theorem sc_is_couple : FnScope N_is_couple ["value"] (defScope s_is_couple) := ⟨rfl, rfl, rfl, by decide +kernel, rfl, by decide +kernel, by decide +kernel⟩
abbrev s_are_couples : Stmt := top 30
abbrev N_are_couples : List Str := ["values", "value"]
theorem sc_are_couples : FnScope N_are_couples ["values"] (defScope s_are_couples) := ⟨rfl, rfl, rfl, by decide +kernel, rfl, by decide +kernel, by decide +kernel⟩
abbrev s_is_ordered : Stmt := top 31
abbrev N_is_ordered : List Str := ["couple", "one", "other"]
theorem sc_is_ordered : FnScope N_is_ordered ["couple"] (defScope s_is_ordered) := ⟨rfl, rfl, rfl, by decide +kernel, rfl, by decide +kernel, by decide +kernel⟩
abbrev s_key_of : Stmt := top 32
abbrev N_key_of : List Str := ["couple"]
theorem sc_key_of : FnScope N_key_of ["couple"] (defScope s_key_of) := ⟨rfl, rfl, rfl, by decide +kernel, rfl, by decide +kernel, by decide +kernel⟩
abbrev s_sides_of : Stmt := top 33
abbrev N_sides_of : List Str := ["couples", "couple", "term"]
theorem sc_sides_of : FnScope N_sides_of ["couples"] (defScope s_sides_of) := ⟨rfl, rfl, rfl, by decide +kernel, rfl, by decide +kernel, by decide +kernel⟩
abbrev s_pairs_in : Stmt := top 34
abbrev N_pairs_in : List Str := ["fact"]
theorem sc_pairs_in : FnScope N_pairs_in ["fact"] (defScope s_pairs_in) := ⟨rfl, rfl, rfl, by decide +kernel, rfl, by decide +kernel, by decide +kernel⟩
abbrev s_pairs_of : Stmt := top 35
abbrev N_pairs_of : List Str := ["couples", "found", "one", "other", "first", "second", "key"]
theorem sc_pairs_of : FnScope N_pairs_of ["couples"] (defScope s_pairs_of) := ⟨rfl, rfl, rfl, by decide +kernel, rfl, by decide +kernel, by decide +kernel⟩
abbrev s_fact_of : Stmt := top 36
abbrev N_fact_of : List Str := ["conclusion", "conditions", "pairs", "last"]
theorem sc_fact_of : FnScope N_fact_of ["conclusion", "conditions"] (defScope s_fact_of) := ⟨rfl, rfl, rfl, by decide +kernel, rfl, by decide +kernel, by decide +kernel⟩
abbrev s_says_nothing : Stmt := top 37
abbrev N_says_nothing : List Str := ["fact", "pair"]
theorem sc_says_nothing : FnScope N_says_nothing ["fact"] (defScope s_says_nothing) := ⟨rfl, rfl, rfl, by decide +kernel, rfl, by decide +kernel, by decide +kernel⟩
abbrev s__law_dice : Stmt := top 39
abbrev N__law_dice : List Str := ["script", "spot", "cell", "great", "mixed"]
theorem sc__law_dice : FnScope N__law_dice ["script", "spot"] (defScope s__law_dice) := ⟨rfl, rfl, rfl, by decide +kernel, rfl, by decide +kernel, by decide +kernel⟩
abbrev s__law_roll : Stmt := top 40
abbrev N__law_roll : List Str := ["dice", "top", "found", "one", "two"]
theorem sc__law_roll : FnScope N__law_roll ["dice", "top"] (defScope s__law_roll) := ⟨rfl, rfl, rfl, by decide +kernel, rfl, by decide +kernel, by decide +kernel⟩
abbrev s__law_pick : Stmt := top 41
abbrev N__law_pick : List Str := ["dice", "items"]
theorem sc__law_pick : FnScope N__law_pick ["dice", "items"] (defScope s__law_pick) := ⟨rfl, rfl, rfl, by decide +kernel, rfl, by decide +kernel, by decide +kernel⟩
abbrev s__law_mixed : Stmt := top 42
abbrev N__law_mixed : List Str := ["dice", "items", "left", "found"]
theorem sc__law_mixed : FnScope N__law_mixed ["dice", "items"] (defScope s__law_mixed) := ⟨rfl, rfl, rfl, by decide +kernel, rfl, by decide +kernel, by decide +kernel⟩
abbrev s__law_text : Stmt := top 43
abbrev N__law_text : List Str := ["term", "part"]
theorem sc__law_text : FnScope N__law_text ["term"] (defScope s__law_text) := ⟨rfl, rfl, rfl, by decide +kernel, rfl, by decide +kernel, by decide +kernel⟩
abbrev s__law_below : Stmt := top 44
abbrev N__law_below : List Str := ["term", "found", "part"]
theorem sc__law_below : FnScope N__law_below ["term"] (defScope s__law_below) := ⟨rfl, rfl, rfl, by decide +kernel, rfl, by decide +kernel, by decide +kernel⟩
abbrev s__law_pair : Stmt := top 45
abbrev N__law_pair : List Str := ["one", "other"]
theorem sc__law_pair : FnScope N__law_pair ["one", "other"] (defScope s__law_pair) := ⟨rfl, rfl, rfl, by decide +kernel, rfl, by decide +kernel, by decide +kernel⟩
abbrev s__law_terms_in : Stmt := top 46
abbrev N__law_terms_in : List Str := ["facts", "found", "conditions", "conclusion", "pair"]
theorem sc__law_terms_in : FnScope N__law_terms_in ["facts"] (defScope s__law_terms_in) := ⟨rfl, rfl, rfl, by decide +kernel, rfl, by decide +kernel, by decide +kernel⟩
abbrev s__law_names : Stmt := top 47
abbrev N__law_names : List Str := ["dice", "few", "pools", "cells", "name", "found"]
theorem sc__law_names : FnScope N__law_names ["dice", "few"] (defScope s__law_names) := ⟨rfl, rfl, rfl, by decide +kernel, rfl, by decide +kernel, by decide +kernel⟩
abbrev s__law_term : Stmt := top 48
abbrev N__law_term : List Str := ["dice", "names", "deep", "some", "name", "places", "row", "turn"]
theorem sc__law_term : FnScope N__law_term ["dice", "names", "deep"] (defScope s__law_term) := ⟨rfl, rfl, rfl, by decide +kernel, rfl, by decide +kernel, by decide +kernel⟩
abbrev s__law_drawn_pair : Stmt := top 49
abbrev N__law_drawn_pair : List Str := ["dice", "names", "deep", "turn", "one", "other", "some", "name", "places"]
theorem sc__law_drawn_pair : FnScope N__law_drawn_pair ["dice", "names", "deep"] (defScope s__law_drawn_pair) := ⟨rfl, rfl, rfl, by decide +kernel, rfl, by decide +kernel, by decide +kernel⟩
abbrev s__law_drawn_fact : Stmt := top 50
abbrev N__law_drawn_fact : List Str := ["dice", "names", "deep", "most", "found", "turn", "pair", "conditions", "text"]
theorem sc__law_drawn_fact : FnScope N__law_drawn_fact ["dice", "names", "deep", "most"] (defScope s__law_drawn_fact) := ⟨rfl, rfl, rfl, by decide +kernel, rfl, by decide +kernel, by decide +kernel⟩
abbrev s__law_at : Stmt := top 51
abbrev N__law_at : List Str := ["world", "name", "things"]
theorem sc__law_at : FnScope N__law_at ["world", "name", "things"] (defScope s__law_at) := ⟨rfl, rfl, rfl, by decide +kernel, rfl, by decide +kernel, by decide +kernel⟩
abbrev s__law_value : Stmt := top 52
abbrev N__law_value : List Str := ["world", "term", "part"]
theorem sc__law_value : FnScope N__law_value ["world", "term"] (defScope s__law_value) := ⟨rfl, rfl, rfl, by decide +kernel, rfl, by decide +kernel, by decide +kernel⟩
abbrev s__law_true : Stmt := top 53
abbrev N__law_true : List Str := ["world", "fact", "one", "other"]
theorem sc__law_true : FnScope N__law_true ["world", "fact"] (defScope s__law_true) := ⟨rfl, rfl, rfl, by decide +kernel, rfl, by decide +kernel, by decide +kernel⟩
abbrev s__law_due : Stmt := top 54
abbrev N__law_due : List Str := ["told", "raw", "kept", "one", "other", "pair", "conditions", "key"]
theorem sc__law_due : FnScope N__law_due ["told", "raw"] (defScope s__law_due) := ⟨rfl, rfl, rfl, by decide +kernel, rfl, by decide +kernel, by decide +kernel⟩
abbrev s__law_second : Stmt := top 55
abbrev N__law_second : List Str := ["dice", "known", "first", "conditions", "told", "more"]
theorem sc__law_second : FnScope N__law_second ["dice", "known", "first"] (defScope s__law_second) := ⟨rfl, rfl, rfl, by decide +kernel, rfl, by decide +kernel, by decide +kernel⟩
abbrev s__law_cut_due : Stmt := top 56
abbrev N__law_cut_due : List Str := ["first", "second", "found", "pair"]
theorem sc__law_cut_due : FnScope N__law_cut_due ["first", "second"] (defScope s__law_cut_due) := ⟨rfl, rfl, rfl, by decide +kernel, rfl, by decide +kernel, by decide +kernel⟩
abbrev s__law_drawn_world : Stmt := top 57
abbrev N__law_drawn_world : List Str := ["dice", "known", "size", "tables", "name", "count", "keys", "turn", "longer", "key", "thing"]
theorem sc__law_drawn_world : FnScope N__law_drawn_world ["dice", "known"] (defScope s__law_drawn_world) := ⟨rfl, rfl, rfl, by decide +kernel, rfl, by decide +kernel, by decide +kernel⟩
abbrev s__law_cut_right : Stmt := top 58
abbrev N__law_cut_right : List Str := ["dice", "known", "first", "second", "found", "turn", "world"]
theorem sc__law_cut_right : FnScope N__law_cut_right ["dice", "known"] (defScope s__law_cut_right) := ⟨rfl, rfl, rfl, by decide +kernel, rfl, by decide +kernel, by decide +kernel⟩
abbrev s__law_put : Stmt := top 59
abbrev N__law_put : List Str := ["term", "old", "new", "part"]
theorem sc__law_put : FnScope N__law_put ["term", "old", "new"] (defScope s__law_put) := ⟨rfl, rfl, rfl, by decide +kernel, rfl, by decide +kernel, by decide +kernel⟩
abbrev s__law_changed_right : Stmt := top 60
abbrev N__law_changed_right : List Str := ["dice", "known", "fact", "inside", "one", "old", "new", "raw", "told", "due", "other"]
theorem sc__law_changed_right : FnScope N__law_changed_right ["dice", "known"] (defScope s__law_changed_right) := ⟨rfl, rfl, rfl, by decide +kernel, rfl, by decide +kernel, by decide +kernel⟩
abbrev s__law_other_names : Stmt := top 61
abbrev N__law_other_names : List Str := ["term", "table", "part"]
theorem sc__law_other_names : FnScope N__law_other_names ["term", "table"] (defScope s__law_other_names) := ⟨rfl, rfl, rfl, by decide +kernel, rfl, by decide +kernel, by decide +kernel⟩
abbrev s__law_renamed_right : Stmt := top 62
abbrev N__law_renamed_right : List Str := ["dice", "known", "fact", "keys", "table", "raw", "told", "one", "other", "key", "name", "count"]
theorem sc__law_renamed_right : FnScope N__law_renamed_right ["dice", "known"] (defScope s__law_renamed_right) := ⟨rfl, rfl, rfl, by decide +kernel, rfl, by decide +kernel, by decide +kernel⟩
abbrev s_law : Stmt := top 63
abbrev N_law : List Str := ["script", "at", "dice", "known", "turn", "one", "two", "three", "four", "idle", "turned", "wide", "asked", "found", "sign", "pair"]
theorem sc_law : FnScope N_law ["script"] (defScope s_law) := ⟨rfl, rfl, rfl, by decide +kernel, rfl, by decide +kernel, by decide +kernel⟩
/-- what the top leaves -/
structure Tx (K : PySem.W.Frag) (mg : Str → Option Value) where
  b_abs : mg "abs" = none
  b_all : mg "all" = none
  b_dict : mg "dict" = none
  b_int : mg "int" = none
  b_isinstance : mg "isinstance" = none
  b_len : mg "len" = none
  b_list : mg "list" = none
  b_max : mg "max" = none
  b_min : mg "min" = none
  b_range : mg "range" = none
  b_set : mg "set" = none
  b_sorted : mg "sorted" = none
  b_str : mg "str" = none
  b_tuple : mg "tuple" = none
  b_zip : mg "zip" = none
  CInvalidName : Addr
  gInvalidName : mg "InvalidName" = some (.ref CInvalidName)
  xInvalidName : PySem.W.excIn K CInvalidName [.type "ValueError", .type "Exception", .type "BaseException", .type "object"] "ValueError.__new__" = true
  kInvalidName : PySem.W.keepIn K (.ref CInvalidName) = true
  bInvalidName : PySem.W.subIn K (.ref CInvalidName) (.type "BaseException") = some true
  tInvalidName : PySem.W.typeIn K (.ref CInvalidName) = some (.type "type")
  eInvalidName : PySem.W.exmOne K (.ref CInvalidName) (.ref CInvalidName) = some true
  CInvalidTerm : Addr
  gInvalidTerm : mg "InvalidTerm" = some (.ref CInvalidTerm)
  xInvalidTerm : PySem.W.excIn K CInvalidTerm [.type "ValueError", .type "Exception", .type "BaseException", .type "object"] "ValueError.__new__" = true
  kInvalidTerm : PySem.W.keepIn K (.ref CInvalidTerm) = true
  bInvalidTerm : PySem.W.subIn K (.ref CInvalidTerm) (.type "BaseException") = some true
  tInvalidTerm : PySem.W.typeIn K (.ref CInvalidTerm) = some (.type "type")
  eInvalidTerm : PySem.W.exmOne K (.ref CInvalidTerm) (.ref CInvalidTerm) = some true
  CInvalidFact : Addr
  gInvalidFact : mg "InvalidFact" = some (.ref CInvalidFact)
  xInvalidFact : PySem.W.excIn K CInvalidFact [.type "ValueError", .type "Exception", .type "BaseException", .type "object"] "ValueError.__new__" = true
  kInvalidFact : PySem.W.keepIn K (.ref CInvalidFact) = true
  bInvalidFact : PySem.W.subIn K (.ref CInvalidFact) (.type "BaseException") = some true
  tInvalidFact : PySem.W.typeIn K (.ref CInvalidFact) = some (.type "type")
  eInvalidFact : PySem.W.exmOne K (.ref CInvalidFact) (.ref CInvalidFact) = some true
  CInvalidOperation : Addr
  gInvalidOperation : mg "InvalidOperation" = some (.ref CInvalidOperation)
  xInvalidOperation : PySem.W.excIn K CInvalidOperation [.type "ValueError", .type "Exception", .type "BaseException", .type "object"] "ValueError.__new__" = true
  kInvalidOperation : PySem.W.keepIn K (.ref CInvalidOperation) = true
  bInvalidOperation : PySem.W.subIn K (.ref CInvalidOperation) (.type "BaseException") = some true
  tInvalidOperation : PySem.W.typeIn K (.ref CInvalidOperation) = some (.type "type")
  eInvalidOperation : PySem.W.exmOne K (.ref CInvalidOperation) (.ref CInvalidOperation) = some true
  c_MAX_PLACES : ∃ t, mg "MAX_PLACES" = some (.int 3 t)
  c_LONGEST_NAME : ∃ t, mg "LONGEST_NAME" = some (.int 8 t)
  apreorder : Addr
  dpreorder : FuncData
  fpreorder : Fun K "preorder" "preorder" s_preorder apreorder dpreorder
  npreorder : Binds K dpreorder ["terms"] []
  gpreorder : mg "preorder" = some (.ref apreorder)
  awritten : Addr
  dwritten : FuncData
  fwritten : Fun K "written" "written" s_written awritten dwritten
  nwritten : Binds K dwritten ["term"] []
  gwritten : mg "written" = some (.ref awritten)
  anumbered : Addr
  dnumbered : FuncData
  fnumbered : Fun K "numbered" "numbered" s_numbered anumbered dnumbered
  nnumbered : Binds K dnumbered ["parts"] []
  gnumbered : mg "numbered" = some (.ref anumbered)
  anumbered_rows : Addr
  dnumbered_rows : FuncData
  fnumbered_rows : Fun K "numbered_rows" "numbered_rows" s_numbered_rows anumbered_rows dnumbered_rows
  nnumbered_rows : Binds K dnumbered_rows ["parts"] []
  gnumbered_rows : mg "numbered_rows" = some (.ref anumbered_rows)
  aput_in : Addr
  dput_in : FuncData
  fput_in : Fun K "put_in" "put_in" s_put_in aput_in dput_in
  nput_in : Binds K dput_in ["term", "old", "new"] []
  gput_in : mg "put_in" = some (.ref aput_in)
  awith_names : Addr
  dwith_names : FuncData
  fwith_names : Fun K "with_names" "with_names" s_with_names awith_names dwith_names
  nwith_names : Binds K dwith_names ["term", "names"] []
  gwith_names : mg "with_names" = some (.ref awith_names)
  ais_name : Addr
  dis_name : FuncData
  fis_name : Fun K "is_name" "is_name" s_is_name ais_name dis_name
  nis_name : Binds K dis_name ["value"] []
  gis_name : mg "is_name" = some (.ref ais_name)
  ais_term : Addr
  dis_term : FuncData
  fis_term : Fun K "is_term" "is_term" s_is_term ais_term dis_term
  nis_term : Binds K dis_term ["value"] []
  gis_term : mg "is_term" = some (.ref ais_term)
  acheck_term : Addr
  dcheck_term : FuncData
  fcheck_term : Fun K "check_term" "check_term" s_check_term acheck_term dcheck_term
  ncheck_term : Binds K dcheck_term ["value"] []
  gcheck_term : mg "check_term" = some (.ref acheck_term)
  acheck_renaming : Addr
  dcheck_renaming : FuncData
  fcheck_renaming : Fun K "check_renaming" "check_renaming" s_check_renaming acheck_renaming dcheck_renaming
  ncheck_renaming : Binds K dcheck_renaming ["places", "names"] []
  gcheck_renaming : mg "check_renaming" = some (.ref acheck_renaming)
  ajoint_places : Addr
  djoint_places : FuncData
  fjoint_places : Fun K "joint_places" "joint_places" s_joint_places ajoint_places djoint_places
  njoint_places : Binds K djoint_places ["values"] []
  gjoint_places : mg "joint_places" = some (.ref ajoint_places)
  ahas_form : Addr
  dhas_form : FuncData
  fhas_form : Fun K "has_form" "has_form" s_has_form ahas_form dhas_form
  nhas_form : Binds K dhas_form ["value"] []
  ghas_form : mg "has_form" = some (.ref ahas_form)
  ais_fact : Addr
  dis_fact : FuncData
  fis_fact : Fun K "is_fact" "is_fact" s_is_fact ais_fact dis_fact
  nis_fact : Binds K dis_fact ["value"] []
  gis_fact : mg "is_fact" = some (.ref ais_fact)
  acut : Addr
  dcut : FuncData
  fcut : Fun K "cut" "cut" s_cut acut dcut
  ncut : Binds K dcut ["fact", "second"] []
  gcut : mg "cut" = some (.ref acut)
  achanged : Addr
  dchanged : FuncData
  fchanged : Fun K "changed" "changed" s_changed achanged dchanged
  nchanged : Binds K dchanged ["fact", "old", "new"] []
  gchanged : mg "changed" = some (.ref achanged)
  afact_renamed : Addr
  dfact_renamed : FuncData
  ffact_renamed : Fun K "fact_renamed" "fact_renamed" s_fact_renamed afact_renamed dfact_renamed
  gfact_renamed : mg "fact_renamed" = some (.ref afact_renamed)
  afact_renamed_by : Addr
  dfact_renamed_by : FuncData
  ffact_renamed_by : Fun K "fact_renamed_by" "fact_renamed_by" s_fact_renamed_by afact_renamed_by dfact_renamed_by
  nfact_renamed_by : Binds K dfact_renamed_by ["fact", "names"] []
  gfact_renamed_by : mg "fact_renamed_by" = some (.ref afact_renamed_by)
  acheck_fact : Addr
  dcheck_fact : FuncData
  fcheck_fact : Fun K "check_fact" "check_fact" s_check_fact acheck_fact dcheck_fact
  ncheck_fact : Binds K dcheck_fact ["value"] []
  gcheck_fact : mg "check_fact" = some (.ref acheck_fact)
  ais_couple : Addr
  dis_couple : FuncData
  fis_couple : Fun K "is_couple" "is_couple" s_is_couple ais_couple dis_couple
  nis_couple : Binds K dis_couple ["value"] []
  gis_couple : mg "is_couple" = some (.ref ais_couple)
  aare_couples : Addr
  dare_couples : FuncData
  fare_couples : Fun K "are_couples" "are_couples" s_are_couples aare_couples dare_couples
  nare_couples : Binds K dare_couples ["values"] []
  gare_couples : mg "are_couples" = some (.ref aare_couples)
  ais_ordered : Addr
  dis_ordered : FuncData
  fis_ordered : Fun K "is_ordered" "is_ordered" s_is_ordered ais_ordered dis_ordered
  nis_ordered : Binds K dis_ordered ["couple"] []
  gis_ordered : mg "is_ordered" = some (.ref ais_ordered)
  akey_of : Addr
  dkey_of : FuncData
  fkey_of : Fun K "key_of" "key_of" s_key_of akey_of dkey_of
  nkey_of : Binds K dkey_of ["couple"] []
  gkey_of : mg "key_of" = some (.ref akey_of)
  asides_of : Addr
  dsides_of : FuncData
  fsides_of : Fun K "sides_of" "sides_of" s_sides_of asides_of dsides_of
  nsides_of : Binds K dsides_of ["couples"] []
  gsides_of : mg "sides_of" = some (.ref asides_of)
  apairs_in : Addr
  dpairs_in : FuncData
  fpairs_in : Fun K "pairs_in" "pairs_in" s_pairs_in apairs_in dpairs_in
  npairs_in : Binds K dpairs_in ["fact"] []
  gpairs_in : mg "pairs_in" = some (.ref apairs_in)
  apairs_of : Addr
  dpairs_of : FuncData
  fpairs_of : Fun K "pairs_of" "pairs_of" s_pairs_of apairs_of dpairs_of
  npairs_of : Binds K dpairs_of ["couples"] []
  gpairs_of : mg "pairs_of" = some (.ref apairs_of)
  afact_of : Addr
  dfact_of : FuncData
  ffact_of : Fun K "fact_of" "fact_of" s_fact_of afact_of dfact_of
  nfact_of : Binds K dfact_of ["conclusion", "conditions"] []
  gfact_of : mg "fact_of" = some (.ref afact_of)
  asays_nothing : Addr
  dsays_nothing : FuncData
  fsays_nothing : Fun K "says_nothing" "says_nothing" s_says_nothing asays_nothing dsays_nothing
  nsays_nothing : Binds K dsays_nothing ["fact"] []
  gsays_nothing : mg "says_nothing" = some (.ref asays_nothing)
  a_law_dice : Addr
  d_law_dice : FuncData
  f_law_dice : Fun K "_law_dice" "_law_dice" s__law_dice a_law_dice d_law_dice
  n_law_dice : Binds K d_law_dice ["script", "spot"] []
  g_law_dice : mg "_law_dice" = some (.ref a_law_dice)
  a_law_roll : Addr
  d_law_roll : FuncData
  f_law_roll : Fun K "_law_roll" "_law_roll" s__law_roll a_law_roll d_law_roll
  n_law_roll : Binds K d_law_roll ["dice", "top"] []
  g_law_roll : mg "_law_roll" = some (.ref a_law_roll)
  a_law_pick : Addr
  d_law_pick : FuncData
  f_law_pick : Fun K "_law_pick" "_law_pick" s__law_pick a_law_pick d_law_pick
  n_law_pick : Binds K d_law_pick ["dice", "items"] []
  g_law_pick : mg "_law_pick" = some (.ref a_law_pick)
  a_law_mixed : Addr
  d_law_mixed : FuncData
  f_law_mixed : Fun K "_law_mixed" "_law_mixed" s__law_mixed a_law_mixed d_law_mixed
  n_law_mixed : Binds K d_law_mixed ["dice", "items"] []
  g_law_mixed : mg "_law_mixed" = some (.ref a_law_mixed)
  a_law_text : Addr
  d_law_text : FuncData
  f_law_text : Fun K "_law_text" "_law_text" s__law_text a_law_text d_law_text
  n_law_text : Binds K d_law_text ["term"] []
  g_law_text : mg "_law_text" = some (.ref a_law_text)
  a_law_below : Addr
  d_law_below : FuncData
  f_law_below : Fun K "_law_below" "_law_below" s__law_below a_law_below d_law_below
  n_law_below : Binds K d_law_below ["term"] []
  g_law_below : mg "_law_below" = some (.ref a_law_below)
  a_law_pair : Addr
  d_law_pair : FuncData
  f_law_pair : Fun K "_law_pair" "_law_pair" s__law_pair a_law_pair d_law_pair
  n_law_pair : Binds K d_law_pair ["one", "other"] []
  g_law_pair : mg "_law_pair" = some (.ref a_law_pair)
  a_law_terms_in : Addr
  d_law_terms_in : FuncData
  f_law_terms_in : Fun K "_law_terms_in" "_law_terms_in" s__law_terms_in a_law_terms_in d_law_terms_in
  n_law_terms_in : Binds K d_law_terms_in ["facts"] []
  g_law_terms_in : mg "_law_terms_in" = some (.ref a_law_terms_in)
  a_law_names : Addr
  d_law_names : FuncData
  f_law_names : Fun K "_law_names" "_law_names" s__law_names a_law_names d_law_names
  n_law_names : Binds K d_law_names ["dice", "few"] []
  g_law_names : mg "_law_names" = some (.ref a_law_names)
  a_law_term : Addr
  d_law_term : FuncData
  f_law_term : Fun K "_law_term" "_law_term" s__law_term a_law_term d_law_term
  n_law_term : Binds K d_law_term ["dice", "names", "deep"] []
  g_law_term : mg "_law_term" = some (.ref a_law_term)
  a_law_drawn_pair : Addr
  d_law_drawn_pair : FuncData
  f_law_drawn_pair : Fun K "_law_drawn_pair" "_law_drawn_pair" s__law_drawn_pair a_law_drawn_pair d_law_drawn_pair
  n_law_drawn_pair : Binds K d_law_drawn_pair ["dice", "names", "deep"] []
  g_law_drawn_pair : mg "_law_drawn_pair" = some (.ref a_law_drawn_pair)
  a_law_drawn_fact : Addr
  d_law_drawn_fact : FuncData
  f_law_drawn_fact : Fun K "_law_drawn_fact" "_law_drawn_fact" s__law_drawn_fact a_law_drawn_fact d_law_drawn_fact
  n_law_drawn_fact : Binds K d_law_drawn_fact ["dice", "names", "deep", "most"] []
  g_law_drawn_fact : mg "_law_drawn_fact" = some (.ref a_law_drawn_fact)
  a_law_at : Addr
  d_law_at : FuncData
  f_law_at : Fun K "_law_at" "_law_at" s__law_at a_law_at d_law_at
  n_law_at : Binds K d_law_at ["world", "name", "things"] []
  g_law_at : mg "_law_at" = some (.ref a_law_at)
  a_law_value : Addr
  d_law_value : FuncData
  f_law_value : Fun K "_law_value" "_law_value" s__law_value a_law_value d_law_value
  n_law_value : Binds K d_law_value ["world", "term"] []
  g_law_value : mg "_law_value" = some (.ref a_law_value)
  a_law_true : Addr
  d_law_true : FuncData
  f_law_true : Fun K "_law_true" "_law_true" s__law_true a_law_true d_law_true
  n_law_true : Binds K d_law_true ["world", "fact"] []
  g_law_true : mg "_law_true" = some (.ref a_law_true)
  a_law_due : Addr
  d_law_due : FuncData
  f_law_due : Fun K "_law_due" "_law_due" s__law_due a_law_due d_law_due
  n_law_due : Binds K d_law_due ["told", "raw"] []
  g_law_due : mg "_law_due" = some (.ref a_law_due)
  a_law_second : Addr
  d_law_second : FuncData
  f_law_second : Fun K "_law_second" "_law_second" s__law_second a_law_second d_law_second
  n_law_second : Binds K d_law_second ["dice", "known", "first"] []
  g_law_second : mg "_law_second" = some (.ref a_law_second)
  a_law_cut_due : Addr
  d_law_cut_due : FuncData
  f_law_cut_due : Fun K "_law_cut_due" "_law_cut_due" s__law_cut_due a_law_cut_due d_law_cut_due
  n_law_cut_due : Binds K d_law_cut_due ["first", "second"] []
  g_law_cut_due : mg "_law_cut_due" = some (.ref a_law_cut_due)
  a_law_drawn_world : Addr
  d_law_drawn_world : FuncData
  f_law_drawn_world : Fun K "_law_drawn_world" "_law_drawn_world" s__law_drawn_world a_law_drawn_world d_law_drawn_world
  n_law_drawn_world : Binds K d_law_drawn_world ["dice", "known"] []
  g_law_drawn_world : mg "_law_drawn_world" = some (.ref a_law_drawn_world)
  a_law_cut_right : Addr
  d_law_cut_right : FuncData
  f_law_cut_right : Fun K "_law_cut_right" "_law_cut_right" s__law_cut_right a_law_cut_right d_law_cut_right
  n_law_cut_right : Binds K d_law_cut_right ["dice", "known"] []
  g_law_cut_right : mg "_law_cut_right" = some (.ref a_law_cut_right)
  a_law_put : Addr
  d_law_put : FuncData
  f_law_put : Fun K "_law_put" "_law_put" s__law_put a_law_put d_law_put
  n_law_put : Binds K d_law_put ["term", "old", "new"] []
  g_law_put : mg "_law_put" = some (.ref a_law_put)
  a_law_changed_right : Addr
  d_law_changed_right : FuncData
  f_law_changed_right : Fun K "_law_changed_right" "_law_changed_right" s__law_changed_right a_law_changed_right d_law_changed_right
  n_law_changed_right : Binds K d_law_changed_right ["dice", "known"] []
  g_law_changed_right : mg "_law_changed_right" = some (.ref a_law_changed_right)
  a_law_other_names : Addr
  d_law_other_names : FuncData
  f_law_other_names : Fun K "_law_other_names" "_law_other_names" s__law_other_names a_law_other_names d_law_other_names
  n_law_other_names : Binds K d_law_other_names ["term", "table"] []
  g_law_other_names : mg "_law_other_names" = some (.ref a_law_other_names)
  a_law_renamed_right : Addr
  d_law_renamed_right : FuncData
  f_law_renamed_right : Fun K "_law_renamed_right" "_law_renamed_right" s__law_renamed_right a_law_renamed_right d_law_renamed_right
  n_law_renamed_right : Binds K d_law_renamed_right ["dice", "known"] []
  g_law_renamed_right : mg "_law_renamed_right" = some (.ref a_law_renamed_right)
  alaw : Addr
  dlaw : FuncData
  flaw : Fun K "law" "law" s_law alaw dlaw
  nlaw : Binds K dlaw ["script"] []
  glaw : mg "law" = some (.ref alaw)
end K12
/-! Data at addresses, its text, its order. -/
namespace Kx
open PySem PySem.Spec PyProof.Rows L2
/-- a key as data -/
def keyD : Key → PyData
  | .inl i => .int i
  | .inr x => .str x
/-- the pairs of a dict as data; the values are flat -/
inductive KvD : List (Key × V) → List (PyData × PyData) → Prop
  | nil : KvD [] []
  | int {k : Key} {i : Int} {r : List (Key × V)} {ds : List (PyData × PyData)} : KvD r ds → KvD ((k, .int i) :: r) ((keyD k, .int i) :: ds)
  | str {k : Key} {x : Str} {r : List (Key × V)} {ds : List (PyData × PyData)} : KvD r ds → KvD ((k, .str x) :: r) ((keyD k, .str x) :: ds)
mutual
/-- v stands for the data d: as Dp, and dicts -/
inductive Dx (K : PySem.W.Frag) (H : Hp) : V → PyData → Prop
  | non : Dx K H .non .none
  | bl (b : Bool) : Dx K H (.bl b) (.bool b)
  | int (i : Int) : Dx K H (.int i) (.int i)
  | str (x : Str) : Dx K H (.str x) (.str x)
  | lst {a : Addr} {xs : List V} {ds : List PyData} : H a = some (.lst xs) → DxAll K H xs ds → Dx K H (.ref a) (.list ds)
  | tup {a : Addr} {xs : List V} {ds : List PyData} : H a = some (.tup xs) → DxAll K H xs ds → Dx K H (.ref a) (.tuple ds)
  | dic {a : Addr} {kvs : List (Key × V)} {ds : List (PyData × PyData)} : H a = some (.dK kvs) → KvD kvs ds → Dx K H (.ref a) (.dict ds)
inductive DxAll (K : PySem.W.Frag) (H : Hp) : List V → List PyData → Prop
  | nil : DxAll K H [] []
  | cons {v : V} {vs : List V} {d : PyData} {ds : List PyData} : Dx K H v d → DxAll K H vs ds → DxAll K H (v :: vs) (d :: ds)
end
section
variable {K : PySem.W.Frag} {H H' : Hp}
theorem Same.tup {a : Addr} {xs : List V} (e : Same H H') (h : SqT K H a xs) : SqT K H' a xs := by
  rcases h with (h | ⟨o, h⟩) | h
  · exact .inl (.inl (e _ _ h))
  · exact .inl (.inr ⟨o, e _ _ h⟩)
  · exact .inr h
mutual
theorem Dx.up (e : Same H H') : ∀ {d : PyData} {v : V}, Dx K H v d → Dx K H' v d
  | .none, _, h => by cases h; exact .non
  | .bool b, _, h => by cases h; exact .bl b
  | .int i, _, h => by cases h; exact .int i
  | .str x, _, h => by cases h; exact .str x
  | .list ds, _, h => by cases h with | lst a b => exact .lst (e _ _ a) (DxAll.up e b)
  | .tuple ds, _, h => by cases h with | tup a b => exact .tup (e _ _ a) (DxAll.up e b)
  | .dict ds, _, h => by cases h with | dic a b => exact .dic (e _ _ a) b
theorem DxAll.up (e : Same H H') : ∀ {ds : List PyData} {vs : List V}, DxAll K H vs ds → DxAll K H' vs ds
  | [], _, h => by cases h; exact .nil
  | d :: ds, _, h => by cases h with | cons a b => exact .cons (Dx.up e a) (DxAll.up e b)
end
mutual
/-- data without dicts -/
theorem Dx.dp : ∀ {d : PyData} {v : V}, d.hasDict = false → Dx K H v d → Dp K H v d
  | .none, _, _, h => by cases h; exact .non
  | .bool b, _, _, h => by cases h; exact .bl b
  | .int i, _, _, h => by cases h; exact .int i
  | .str x, _, _, h => by cases h; exact .str x
  | .list ds, _, z, h => by cases h with | lst a b => exact .lst (.inl (.inl a)) (DxAll.dp (by simpa [PyData.hasDict] using z) b)
  | .tuple ds, _, z, h => by cases h with | tup a b => exact .tup (.inl (.inl a)) (DxAll.dp (by simpa [PyData.hasDict] using z) b)
  | .dict ds, _, z, h => by simp [PyData.hasDict] at z
theorem DxAll.dp : ∀ {ds : List PyData} {vs : List V}, PyData.hasDictAll ds = false → DxAll K H vs ds → DpAll K H vs ds
  | [], _, _, h => by cases h; exact .nil
  | d :: ds, _, z, h => by
    cases h with
    | cons a b =>
      have z' : d.hasDict = false ∧ PyData.hasDictAll ds = false := by simpa [PyData.hasDictAll] using z
      exact .cons (Dx.dp z'.1 a) (DxAll.dp z'.2 b)
end
theorem DxAll.length : ∀ {vs : List V} {ds : List PyData}, DxAll K H vs ds → vs.length = ds.length
  | _, _, .nil => rfl
  | _, _, .cons _ t => by rw [List.length_cons, List.length_cons, DxAll.length t]
theorem DxAll.append : ∀ {vs us : List V} {ds es : List PyData}, DxAll K H vs ds → DxAll K H us es → DxAll K H (vs ++ us) (ds ++ es)
  | _, _, _, _, .nil, h => h
  | _, _, _, _, .cons a t, h => .cons a (DxAll.append t h)
theorem DxAll.get : ∀ {vs : List V} {ds : List PyData} {i : Nat} {d : PyData}, DxAll K H vs ds → ds[i]? = some d → ∃ v, vs[i]? = some v ∧ Dx K H v d
  | _, _, _, _, .nil, h => by simp at h
  | _, _, 0, _, .cons a _, h => by
    simp at h
    subst h
    exact ⟨_, rfl, a⟩
  | _, _, i + 1, _, .cons _ t, h => by
    obtain ⟨v, e, x⟩ := DxAll.get (i := i) t (by simpa using h)
    exact ⟨v, by simpa using e, x⟩
theorem DxAll.take : ∀ {vs : List V} {ds : List PyData} (i : Nat), DxAll K H vs ds → DxAll K H (vs.take i) (ds.take i)
  | _, _, 0, _ => .nil
  | _, _, _ + 1, .nil => .nil
  | _, _, i + 1, .cons a t => .cons a (DxAll.take i t)
theorem DxAll.drop : ∀ {vs : List V} {ds : List PyData} (i : Nat), DxAll K H vs ds → DxAll K H (vs.drop i) (ds.drop i)
  | _, _, 0, h => h
  | _, _, _ + 1, .nil => .nil
  | _, _, i + 1, .cons _ t => DxAll.drop i t
end
/-- the class of data -/
def tyD : PyData → String
  | .none => "NoneType"
  | .bool _ => "bool"
  | .int _ => "int"
  | .str _ => "str"
  | .list _ => "list"
  | .tuple _ => "tuple"
  | .dict _ => "dict"
theorem Dx.ty {K : PySem.W.Frag} {H : Hp} {d : PyData} {v : V} (h : Dx K H v d) : TyX K H v (.type (tyD d)) := by
  cases h with
  | non => exact .base .non
  | bl b => exact .base (.bl b)
  | int i => exact .base (.int i)
  | str x => exact .base (.str x)
  | lst a _ => exact .base (.lst a)
  | tup a _ => exact .base (.tup a)
  | dic a _ => exact .base (.dK a)
mutual
/-- no list within -/
def noL : PyData → Bool
  | .list _ => false
  | .tuple ds => noLs ds
  | _ => true
def noLs : List PyData → Bool
  | [] => true
  | d :: ds => noL d && noLs ds
end
section
variable {X : Cx} {pins : List (Addr × Obj)} {σ : L2.St} {H : Hp} {s : Shared}
theorem kv_reads {P : Program} {w : World} {h : Heap} : ∀ {kvs : List (Key × V)} {ds : List (PyData × PyData)} {vs : List (Key × Value)} {es : List DictEntry}, KvD kvs ds → KV kvs vs → Pairs (mixKind P w) es vs →
    ReadsAll h (es.map (·.key)) (ds.map (·.1)) [] ∧ ReadsAll h (es.map (·.val)) (ds.map (·.2)) []
  | _, _, _, _, .nil, r, p => by
    cases r
    cases p
    exact ⟨.nil, .nil⟩
  | _, _, _, _, .int (k := k) (i := i) t, r, p => by
    cases r with
    | cons r0 rt =>
      cases p with
      | cons p1 p2 pt =>
        obtain ⟨a, b⟩ := kv_reads (h := h) t rt pt
        obtain ⟨r1, tk, r2⟩ := r0
        refine ⟨ReadsAll.cons (as := []) (bs := []) ?_ a, ReadsAll.cons (as := []) (bs := []) ?_ b⟩
        · rw [← r1] at p1
          rcases keyIs_shape p1 with ⟨j, u, rfl, ee⟩ | ⟨x, u, rfl, ee⟩
          · dsimp only; rw [ee]; exact Reads.int j u
          · dsimp only; rw [ee]; exact Reads.str x u
        · dsimp only
          rw [p2, r2]
          exact Reads.int i tk
  | _, _, _, _, .str (k := k) (x := i) t, r, p => by
    cases r with
    | cons r0 rt =>
      cases p with
      | cons p1 p2 pt =>
        obtain ⟨a, b⟩ := kv_reads (h := h) t rt pt
        obtain ⟨r1, tk, r2⟩ := r0
        refine ⟨ReadsAll.cons (as := []) (bs := []) ?_ a, ReadsAll.cons (as := []) (bs := []) ?_ b⟩
        · rw [← r1] at p1
          rcases keyIs_shape p1 with ⟨j, u, rfl, ee⟩ | ⟨x, u, rfl, ee⟩
          · dsimp only; rw [ee]; exact Reads.int j u
          · dsimp only; rw [ee]; exact Reads.str x u
        · dsimp only
          rw [p2, r2]
          exact Reads.str i tk
mutual
theorem Dx.reads (I : Inv X pins σ H s) : ∀ (d : PyData) (v : V) (u : Value), Dx X.K H v d → RelV v u → ∃ as, Reads s.heap u d as ∧ (noL d = true → sysModules ∉ as)
  | .none, _, _, h, r => by
    cases h
    cases r
    exact ⟨_, Reads.none, fun _ => by simp⟩
  | .bool b, _, _, h, r => by
    cases h
    cases r
    exact ⟨_, Reads.bool b, fun _ => by simp⟩
  | .int i, _, _, h, r => by
    cases h
    obtain ⟨t, rfl⟩ := r
    exact ⟨_, Reads.int i t, fun _ => by simp⟩
  | .str x, _, _, h, r => by
    cases h
    obtain ⟨t, rfl⟩ := r
    exact ⟨_, Reads.str x t, fun _ => by simp⟩
  | .list ds, _, _, h, r => by
    cases h with
    | lst hs ha =>
      cases r
      obtain ⟨its, rv, ⟨o, n, ho, hc, _, hd⟩, _⟩ := I.list (SqL.of hs)
      obtain ⟨as, hr, _⟩ := DxAll.reads I ds _ its ha rv
      exact ⟨_, Reads.list ho hc hd hr, fun z => by simp [noL] at z⟩
  | .tuple ds, _, _, h, r => by
    cases h with
    | tup hs ha =>
      cases r
      obtain ⟨its, rv, ⟨o, ho, hc, n, hd⟩, _⟩ := I.tuple (SqT.of hs)
      obtain ⟨as, hr, z⟩ := DxAll.reads I ds _ its ha rv
      exact ⟨_, Reads.tuple ho hc hd hr, fun q => z (by simpa [noL] using q)⟩
  | .dict ds, _, _, h, r => by
    cases h with
    | dic hs ha =>
      cases r
      obtain ⟨_, ns, vs, rv, o, es, ep, h1, h2, h3, h4, h5, h6⟩ := I.hok _ _ hs
      obtain ⟨q1, q2⟩ := kv_reads (h := s.heap) ha rv h5
      refine ⟨_, Reads.dict h1 h2.1 h3 q1 q2, fun _ => ?_⟩
      have ne : ¬ _ = sysModules := beq_eq_false_iff_ne.mp ns
      simp only [List.append_nil, List.mem_singleton]
      exact fun e => ne e.symm
theorem DxAll.reads (I : Inv X pins σ H s) : ∀ (ds : List PyData) (vs : List V) (us : List Value), DxAll X.K H vs ds → Vals vs us → ∃ as, ReadsAll s.heap us ds as ∧ (noLs ds = true → sysModules ∉ as)
  | [], _, _, h, r => by
    cases h
    cases r
    exact ⟨_, ReadsAll.nil, fun _ => by simp⟩
  | d :: ds, _, _, h, r => by
    cases h with
    | cons h1 h2 =>
      cases r with
      | cons r1 r2 =>
        obtain ⟨as, q1, z1⟩ := Dx.reads I d _ _ h1 r1
        obtain ⟨bs, q2, z2⟩ := DxAll.reads I ds _ _ h2 r2
        refine ⟨_, ReadsAll.cons q1 q2, fun z => ?_⟩
        have z' : noL d = true ∧ noLs ds = true := by simpa [noLs] using z
        simp only [List.mem_append, not_or]
        exact ⟨z1 z'.1, z2 z'.2⟩
end
end
section
variable {X : Cx}
/-- repr(x) of data, where nothing around shows itself -/
def rRepr (K : PySem.W.Frag) : List V → Hp → VK → Prop := fun xs H Q => ∃ x d, xs = [x] ∧ Dx K H x d ∧ d.showable = true ∧ (d.hasDict = true → noL d = true) ∧ d.depth ≤ 60 ∧ d.shown.length + 64 ≤ sizeLine ∧ Q (.str d.shown) H
theorem cr_repr (cm : Calm X.A) (hu : X.A.units + 64 < cLine) : CallR X (.builtin "repr") (rRepr X.K) := by
  intro pins s σ H xs us Q I rv h
  obtain ⟨x, d, rfl, hx, sh, hd, dp, sz, q⟩ := h
  obtain ⟨u, rfl, ru⟩ := rv.one
  obtain ⟨as, rd, ns⟩ := Dx.reads I d x u hx ru
  cases rd with
  | none => exact PySem.P.repr_of_none ⟨.str _, H, I.tok _, ⟨_, rfl⟩, q⟩
  | bool b => exact PySem.P.repr_of_bool ⟨.str _, H, I.tok _, ⟨_, rfl⟩, by simpa [PyData.shown] using q⟩
  | int i t => exact PySem.P.repr_of_int (by simpa [PyData.showable] using sh) ⟨.str _, H, I.tok _, ⟨_, rfl⟩, q⟩
  | str z t => exact PySem.P.repr_of_str ⟨.str _, H, I.tok _, ⟨_, rfl⟩, q⟩ (Nat.le_trans (Nat.le_add_right _ 64) (by simpa [PyData.shown] using sz))
  | list h1 h2 h3 h4 =>
    exact repr_of_reads' (.list h1 h2 h3 h4) sh (fun z => ns (hd z)) cm (by omega) (fun _ _ e => e) (fun h' u tk k => ⟨.str _, H, I.kept k, ⟨_, rfl⟩, q⟩) (by omega)
  | tuple h1 h2 h3 h4 =>
    exact repr_of_reads' (.tuple h1 h2 h3 h4) sh (fun z => ns (hd z)) cm (by omega) (fun _ _ e => e) (fun h' u tk k => ⟨.str _, H, I.kept k, ⟨_, rfl⟩, q⟩) (by omega)
  | dict h1 h2 h3 h4 h5 =>
    exact repr_of_reads' (.dict h1 h2 h3 h4 h5) sh (fun z => ns (hd z)) cm (by omega) (fun _ _ e => e) (fun h' u tk k => ⟨.str _, H, I.kept k, ⟨_, rfl⟩, q⟩) (by omega)
/-- sorted(xs), by the data of the items -/
abbrev Item := V × PyData
def rSortD (K : PySem.W.Frag) : List V → Hp → VK → Prop := fun xs H Q => ∃ (a : Addr) (zs : List Item), xs = [.ref a] ∧ SqL K H a (zs.map Prod.fst) ∧ (∀ p, p ∈ zs → Dp K H p.1 p.2) ∧ PySem.W.AllAlike (zs.map Prod.snd) ∧ PySem.W.Sortable (zs.map Prod.snd) ∧
  zs.length ≤ sizeLine ∧ (∀ p, p ∈ zs → p.2.depth ≤ 60) ∧ ∀ p, H p = none → Q (.ref p) (upd H p (.lst ((zs.mergeSort (PySem.W.dataLe false Prod.snd)).map Prod.fst)))
theorem cr_sortedD (hu : X.A.units + 64 < cLine) : CallR X (.builtin "sorted") (rSortD X.K) := by
  intro pins s σ H xs us Q I rv h
  obtain ⟨a, zs, rfl, hl, hz, al, so, sz, dp, q⟩ := h
  obtain ⟨u, rfl, ru⟩ := rv.one
  cases ru
  obtain ⟨its, r, pl, nl⟩ := I.list hl
  have each : ∀ (zs : List Item) (its : List Value), Vals (zs.map Prod.fst) its → (∀ p, p ∈ zs → Dp X.K H p.1 p.2) → PySem.W.EachIs (fun u (p : Item) => RelV p.1 u ∧ ∃ as, Reads s.heap u p.2 as) its zs := by
    intro zs
    induction zs with
    | nil =>
      intro its r _
      cases r
      exact .nil
    | cons p zs ih =>
      intro its r hz
      cases r with
      | cons r1 rt => exact .cons ⟨r1, Dp.reads I _ _ _ (hz p List.mem_cons_self) r1⟩ (ih _ rt fun q hq => hz q (List.mem_cons_of_mem _ hq))
  have e := each zs its r hz
  have back : ∀ {out : List Value} {ys : List Item}, PySem.W.EachIs (fun u (p : Item) => RelV p.1 u ∧ ∃ as, Reads s.heap u p.2 as) out ys → Vals (ys.map Prod.fst) out := by
    intro out ys h
    induction h with
    | nil => exact .nil
    | cons h _ ih => exact .cons h.1 ih
  refine PySem.W.sorted_data pl.isList e (e.mono fun _ _ h => h.2) al so sz (fun b hb => by have := dp b hb; omega) ?_
  intro out ho eo
  obtain ⟨ep, he⟩ := PyProof.Rows.sortedAll_at s.heap its out.toArray
  have rr := back eo
  have ln : ((zs.mergeSort (PySem.W.dataLe false Prod.snd)).map Prod.fst).length ≤ sizeLine := by
    rw [List.length_map, List.length_mergeSort]
    exact sz
  exact ⟨.ref _, upd H (s.heap.objs.size + 1) (.lst ((zs.mergeSort (PySem.W.dataLe false Prod.snd)).map Prod.fst)), I.laid (t' := s.toks) (fun _ _ => PyProof.Rows.sortedAll_old) (Nat.le_succ _) ⟨ln, out, ep, rr, he⟩, rfl, q _ (I.hok.fresh (Nat.le_succ _))⟩
end
end Kx
/-! The dice. -/
namespace K12
open PySem PySem.Spec PyProof.Rows L2 Kx
/-- all but a stands -/
def But (a : Addr) (H H' : Hp) : Prop := ∀ b o, H b = some o → b ≠ a → H' b = some o
theorem But.refl (a : Addr) (H : Hp) : But a H H := fun _ _ h _ => h
theorem But.trans {a : Addr} {H H1 H2 : Hp} (x : But a H H1) (y : But a H1 H2) : But a H H2 := fun b o h n => y b o (x b o h n) n
theorem But.of {a : Addr} {H H' : Hp} (x : Same H H') : But a H H' := fun b o h _ => x b o h
theorem But.upd {a : Addr} {H : Hp} {o : HO} : But a H (upd H a o) := fun b u h n => by rw [upd_ne n]; exact h
theorem same_new {H : Hp} {p : Addr} {o : HO} (h : H p = none) : Same H (upd H p o) := fun b x e => by
  rw [upd_ne (ne_of_none e h)]
  exact e
/-- dice at a, rolled n times at most -/
def Dice (H : Hp) (a : Addr) (n : Nat) : Prop := ∃ i0 i1 i2 : Int, H a = some (.lst [.int i0, .int i1, .int i2]) ∧ 0 ≤ i0 ∧ i0 < 2 ^ 2200 ∧ 0 ≤ i1 ∧ i1 < 2 ^ 61 ∧ 0 ≤ i2 ∧ i2 ≤ n
theorem Dice.up {H H' : Hp} {a : Addr} {n : Nat} (d : Dice H a n) (e : Same H H') : Dice H' a n := by
  obtain ⟨i0, i1, i2, h, r⟩ := d
  exact ⟨i0, i1, i2, e _ _ h, r⟩
theorem Dice.le {H : Hp} {a : Addr} {n m : Nat} (d : Dice H a n) (e : n ≤ m) : Dice H a m := by
  obtain ⟨i0, i1, i2, h, a1, a2, a3, a4, a5, a6⟩ := d
  exact ⟨i0, i1, i2, h, a1, a2, a3, a4, a5, by omega⟩
section
variable {P : Program} {w : World} {K : PySem.W.Frag} {mg : Str → Option Value} {base : Heap}
def spDice (K : PySem.W.Frag) : Sp := fun vs H Q _ => ∃ (a : Addr) (ns : List Int) (k : Nat), vs = [.ref a, .int k] ∧ SqL K H a (ns.map V.int) ∧ k < 1000 ∧ ∀ H' p, Same H H' → H p = none → Dice H' p 0 → Q (.ref p) H'
theorem ok_dice (T : Tx K mg) : FnOk P w K mg base CX0 1 T.a_law_dice T.d_law_dice ["script", "spot"] (spDice K) := by
  have nd := sc__law_dice.nd
  refine T.f_law_dice.ok sc__law_dice (fun vs H Q E h => ?_) (fun cdv A outer s H vs Q E hr h => ?_)
  · obtain ⟨a, ns, k, rfl, _⟩ := h
    rfl
  · obtain ⟨a, ns, k, rfl, hS, hk, q⟩ := h
    refine ⟨_, (C8.pss_cut (ps_set (i := 2) nd rfl (.inl rfl) (pe_ifExp (pt_cmpR op_lt (pv 1) (pe_callB call_len_seq (by rfl) T.b_len (by decide +kernel) (pa_cons (pv 0) pa_nil)) (nomark _)) (pe_ix ix_list (pv 0) (pv 1) (fun _ _ => rfl)) (pe_op op_add (pe_op op_mul pe_int (pv 1)) pe_int)))
      (pss_cons (ps_set (i := 3) nd rfl (.inl rfl) (pe_op op_mod (pe_callTy call_int1 (by rfl) T.b_int (by decide +kernel) (pa_cons (pe_callB call_abs (by rfl) T.b_abs (by decide +kernel) (pa_cons (pv 2) pa_nil)) pa_nil)) (pe_op op_powX (pe_op op_pow pe_int pe_int) pe_int)))
      (pss_cons (ps_set (i := 4) nd rfl (.inl rfl) (pe_op op_mul (pe_op op_mod (pe_callTy call_int1 (by rfl) T.b_int (by decide +kernel) (pa_cons (pv 3) pa_nil)) pe_int) pe_int))
      (pss_cons (ps_set (i := 4) nd rfl (.inl rfl) (pe_op op_add (pe_op op_add (pe_op op_add (pv 4) (pe_op op_mul pe_int (pv 1))) (pe_op op_mul pe_int (pe_callTy call_int1 (by rfl) T.b_int (by decide +kernel) (pa_cons (pe_cmpR op_lt (pv 2) pe_int (nomark _)) pa_nil)))) pe_int))
      (pss_one (ps_ret (pe_lst (pa_cons (pe_callB (call_max2 rfl) (by rfl) T.b_max (by decide +kernel) (pa_cons pe_int (pa_cons (pe_op op_add (pe_op op_sub (pv 3) (pe_op op_pow pe_int pe_int)) pe_int) pa_nil))) (pa_cons (pe_op op_mod (pe_callTy call_int1 (by rfl) T.b_int (by decide +kernel) (pa_cons (pv 4) pa_nil)) pe_int) (pa_cons pe_int pa_nil)))))))))), ?_⟩
    -- cell: one or the other int
    refine ⟨fun σ' H' => H' = H ∧ ∃ c : Int, σ' = [some (.ref a), some (.int k), some (.int c), none, none], ?_, ?_⟩
    · refine ⟨_, rfl, .ref a, rfl, a, ns.map V.int, rfl, .inl hS, k, _, rfl, rfl, _, rfl, ite2 (fun hc => ?_) (fun hc => ?_)⟩
      · have lt : k < ns.length := by
          have z := of_decide_eq_true hc
          rw [List.length_map] at z
          omega
        refine ⟨.ref a, rfl, _, rfl, a, ns.map V.int, (k : Int), .int ns[k], rfl, rfl, hS, atI_nat (by rw [List.getElem?_map, List.getElem?_eq_getElem lt]; rfl), rfl, ns[k], rfl⟩
      · exact ⟨_, rfl, 37, k, rfl, rfl, .inl ⟨by decide, by decide⟩, _, _, rfl, rfl, rfl, _, rfl⟩
    rintro σ' H' ⟨rfl, c, rfl⟩
    -- great
    refine ⟨_, rfl, c, rfl, .inl ⟨_, rfl, 10, 59, rfl, rfl, ⟨by decide, by decide, by decide⟩, _, 11, rfl, rfl, ⟨by decide, by decide +kernel⟩, _, _, rfl, rfl, (show (0 : Int) < ((10 : Int) ^ (59 : Int).toNat) ^ (11 : Int).toNat by decide +kernel), ?_⟩⟩
    dsimp only
    have g0 := Int.emod_nonneg (if c < 0 then -c else c) (show ((10 : Int) ^ (59 : Int).toNat) ^ (11 : Int).toNat ≠ 0 by decide +kernel)
    have g1 := Int.emod_lt_of_pos (if c < 0 then -c else c) (show (0 : Int) < ((10 : Int) ^ (59 : Int).toNat) ^ (11 : Int).toNat by decide +kernel)
    have g2 : ((10 : Int) ^ (59 : Int).toNat) ^ (11 : Int).toNat < 2 ^ 2200 := by decide +kernel
    have g3 := Int.lt_trans g1 g2
    clear g1 g2
    generalize (if c < 0 then -c else c) % ((10 : Int) ^ (59 : Int).toNat) ^ (11 : Int).toNat = g at g0 g3 ⊢
    -- mixed
    refine ⟨_, rfl, .inl ⟨g, rfl, g, 2305843009213693951, rfl, rfl, (show (0 : Int) < 2305843009213693951 by decide), _, 7046029254386353, rfl, rfl, .inr ⟨by decide, by decide⟩, ?_⟩⟩
    refine ⟨_, rfl, _, rfl, 131, k, rfl, rfl, .inl ⟨by decide, by decide⟩, _, _, rfl, rfl, _, rfl, c, 0, rfl, rfl, .inr ⟨_, rfl, 17, _, rfl, rfl, .inl ⟨by decide, by decide⟩, _, _, rfl, rfl, _, 3, rfl, rfl, ?_⟩⟩
    dsimp only
    generalize g % 2305843009213693951 * 7046029254386353 + 131 * (k : Int) + 17 * (if decide (c < 0) = true then 1 else 0) + 3 = m
    -- the list
    refine ⟨_, rfl, 10, 18, rfl, rfl, ⟨by decide, by decide, by decide⟩, g, _, rfl, rfl, _, 1, rfl, rfl, 0, _, rfl, _, rfl, .inl ⟨m, rfl, m, 2305843009213693921, rfl, rfl, (show (0 : Int) < 2305843009213693921 by decide), by show 3 ≤ sizeLine; decide, fun p np => ?_⟩⟩
    refine q _ p (same_new np) np ⟨_, _, _, upd_same, ?_, ?_, Int.emod_nonneg _ (by decide), Int.lt_trans (Int.emod_lt_of_pos _ (by decide)) (by decide), by decide, by decide⟩
    · split <;> omega
    · split
      · have : (0 : Int) ≤ 10 ^ (18 : Int).toNat := by decide
        have z : (1 : Int) ≤ 10 ^ (18 : Int).toNat := by decide
        omega
      · decide
end
end K12
/-! The dice rolled; an item picked; items mixed. -/
namespace K12
open PySem PySem.Spec PyProof.Rows L2 Kx
section
variable {P : Program} {w : World} {K : PySem.W.Frag} {mg : Str → Option Value} {base : Heap}
def cap : Nat := 1000000
def spRoll : Sp := fun vs H Q _ => ∃ (a : Addr) (n : Nat) (m : Int), vs = [.ref a, .int m] ∧ Dice H a n ∧ n < cap ∧ 0 < m ∧ m < 1000000 ∧ ∀ (r : Int) H', But a H H' → Dice H' a (n + 1) → 0 ≤ r → r < m → Q (.int r) H'
theorem ok_roll (T : Tx K mg) : FnOk P w K mg base CX0 1 T.a_law_roll T.d_law_roll ["dice", "top"] spRoll := by
  have nd := sc__law_roll.nd
  refine T.f_law_roll.ok sc__law_roll (fun vs H Q E h => ?_) (fun cdv A outer s H vs Q E hr h => ?_)
  · obtain ⟨a, n, m, rfl, _⟩ := h
    rfl
  · obtain ⟨a, n, m, rfl, ⟨i0, i1, i2, hd, h0, h1, h2, h3, h4, h5⟩, hn, m0, m1, q⟩ := h
    have sl : SqL K H a [.int i0, .int i1, .int i2] := .inl (.inl hd)
    refine ⟨_, (pss_cons (ps_if (pt_cmpR op_gt (pe_ix ix_list (pv 0) pe_int (fun _ _ => rfl)) pe_int (nomark _)) (pss_cons (ps_set (i := 2) nd rfl (.inl rfl) (pe_op op_mod (pe_callTy call_int1 (by rfl) T.b_int (by decide +kernel) (pa_cons (pe_ix ix_list (pv 0) pe_int (fun _ _ => rfl)) pa_nil)) (pv 1)))
      (pss_cons (ps_asg (pe_op op_fdivW (pe_ix ix_list (pv 0) pe_int (fun _ _ => rfl)) (pv 1)) (pg_sub (pv 0) pe_int set_list))
      (pss_one (ps_ret (pv 2))))) pss_nil)
      (pss_cons (ps_asg (pe_op op_add (pe_ix ix_list (pv 0) pe_int (fun _ _ => rfl)) pe_int) (pg_sub (pv 0) pe_int set_list))
      (pss_cons (ps_set (i := 3) nd rfl (.inl rfl) (pe_op op_mod (pe_callTy call_int1 (by rfl) T.b_int (by decide +kernel) (pa_cons (pe_op op_add (pe_ix ix_list (pv 0) pe_int (fun _ _ => rfl)) (pe_op op_mul pe_int (pe_ix ix_list (pv 0) pe_int (fun _ _ => rfl)))) pa_nil)) pe_int))
      (pss_cons (ps_set (i := 4) nd rfl (.inl rfl) (pe_op op_add (pe_op op_mul (pe_op op_mod (pe_callTy call_int1 (by rfl) T.b_int (by decide +kernel) (pa_cons (pe_op op_mul (pv 3) (pv 3)) pa_nil)) pe_int) (pv 3)) (pe_op op_mul pe_int (pe_ix ix_list (pv 0) pe_int (fun _ _ => rfl)))))
      (pss_one (ps_ret (pe_op op_mod (pe_callTy call_int1 (by rfl) T.b_int (by decide +kernel) (pa_cons (pe_op op_fdiv (pe_op op_mod (pe_callTy call_int1 (by rfl) T.b_int (by decide +kernel) (pa_cons (pe_op op_add (pe_op op_mulW (pv 4) (pv 4)) (pe_ix ix_list (pv 0) pe_int (fun _ _ => rfl))) pa_nil)) pe_int) pe_int) pa_nil)) (pv 1)))))))), ?_⟩
    refine ⟨_, rfl, a, _, _, _, rfl, rfl, sl, atI_nat (j := 0) rfl, i0, 0, rfl, rfl, _, rfl, ite2 (fun hc => ?_) (fun hc => ?_)⟩
    · -- the great number
      refine ⟨_, rfl, a, _, _, _, rfl, rfl, sl, atI_nat (j := 0) rfl, .inl ⟨i0, rfl, _, rfl, i0, m, rfl, rfl, m0, ?_⟩⟩
      refine ⟨_, rfl, a, _, _, _, rfl, rfl, sl, atI_nat (j := 0) rfl, _, rfl, i0, m, rfl, rfl, wide_div m0 (b := 30) (by omega) (by decide) (by decide), _, rfl, a, _, _, 0, rfl, rfl, hd, rfl, ?_⟩
      refine ⟨_, rfl, q _ _ But.upd ⟨i0 / m, i1, i2, upd_same, Int.ediv_nonneg h0 (by omega), Int.lt_of_le_of_lt (Int.ediv_le_self _ h0) h1, h2, h3, h4, by omega⟩ (Int.emod_nonneg _ (by omega)) (Int.emod_lt_of_pos _ m0)⟩
    · -- the small one
      refine ⟨_, rfl, a, _, _, _, rfl, rfl, sl, atI_nat (j := 2) rfl, i2, 1, rfl, rfl, _, rfl, a, _, _, 2, rfl, rfl, hd, rfl, ?_⟩
      have hd2 : (upd H a (.lst ([V.int i0, V.int i1, V.int i2].set 2 (V.int (i2 + 1))))) a = some (.lst [V.int i0, V.int i1, V.int (i2 + 1)]) := upd_same
      have sl2 : SqL K (upd H a (.lst ([V.int i0, V.int i1, V.int i2].set 2 (V.int (i2 + 1))))) a [.int i0, .int i1, .int (i2 + 1)] := .inl (.inl hd2)
      refine ⟨_, rfl, a, _, _, _, rfl, rfl, sl2, atI_nat (j := 1) rfl, _, rfl, a, _, _, _, rfl, rfl, sl2, atI_nat (j := 2) rfl, 1220703125, i2 + 1, rfl, rfl, .inl ⟨by decide, by decide⟩, i1, _, rfl, rfl, .inl ⟨_, rfl, _, 36028797018963913, rfl, rfl, (show (0 : Int) < 36028797018963913 by decide), ?_⟩⟩
      dsimp only
      have o0 := Int.emod_nonneg (i1 + 1220703125 * (i2 + 1)) (show (36028797018963913 : Int) ≠ 0 by decide)
      have o1 := Int.emod_lt_of_pos (i1 + 1220703125 * (i2 + 1)) (show (0 : Int) < 36028797018963913 by decide)
      generalize (i1 + 1220703125 * (i2 + 1)) % 36028797018963913 = one at o0 o1 ⊢
      refine ⟨_, rfl, _, rfl, one, one, rfl, rfl, .inl ⟨by omega, by omega⟩, .inl ⟨_, rfl, _, 18014398509481951, rfl, rfl, (show (0 : Int) < 18014398509481951 by decide), _, rfl, _, one, rfl, rfl, .inr ⟨by omega, by omega⟩, _, rfl, a, _, _, _, rfl, rfl, sl2, atI_nat (j := 2) rfl, 271828183, i2 + 1, rfl, rfl, .inl ⟨by decide, by decide⟩, _, _, rfl, rfl, ?_⟩⟩
      dsimp only
      have x0 := Int.emod_nonneg (one * one) (show (18014398509481951 : Int) ≠ 0 by decide)
      have x1 := Int.emod_lt_of_pos (one * one) (show (0 : Int) < 18014398509481951 by decide)
      generalize one * one % 18014398509481951 = x at x0 x1 ⊢
      have y0 : 0 ≤ x * one := Int.mul_nonneg x0 o0
      have y1 : x * one ≤ 18014398509481951 * 36028797018963913 := Int.mul_le_mul (by omega) (by omega) o0 (by decide)
      generalize x * one = y at y0 y1 ⊢
      have hn' : (i2 + 1 : Int) ≤ 1000001 := by
        unfold cap at hn
        omega
      have t1 : (y + 271828183 * (i2 + 1)).natAbs < 2 ^ 120 := by omega
      generalize y + 271828183 * (i2 + 1) = two at t1 ⊢
      refine ⟨_, rfl, _, rfl, two, two, rfl, rfl, wide_mul t1 t1 (by decide) (by decide) (by decide), _, rfl, a, _, _, _, rfl, rfl, sl2, atI_nat (j := 1) rfl, _, i1, rfl, rfl, .inl ⟨_, rfl, _, 1125899906842597, rfl, rfl, (show (0 : Int) < 1125899906842597 by decide), _, 4096, rfl, rfl, ⟨by decide, by decide⟩, .inl ⟨_, rfl, _, rfl, _, m, rfl, rfl, m0, ?_⟩⟩⟩
      exact q _ _ But.upd ⟨i0, i1, i2 + 1, hd2, h0, h1, h2, h3, by omega, by omega⟩ (Int.emod_nonneg _ (by omega)) (Int.emod_lt_of_pos _ m0)
/-- an item of a list at b -/
def spPick (K : PySem.W.Frag) : Sp := fun vs H Q _ => ∃ (a b : Addr) (n : Nat) (xs : List V), vs = [.ref a, .ref b] ∧ Dice H a n ∧ n < cap ∧ SqL K H b xs ∧ b ≠ a ∧ 0 < xs.length ∧ xs.length < 1000000 ∧ ∀ (i : Nat) (v : V) H', But a H H' → Dice H' a (n + 1) → xs[i]? = some v → Q v H'
theorem But.sq {a b : Addr} {H H' : Hp} {xs : List V} (x : But a H H') (h : SqL K H b xs) (n : b ≠ a) : SqL K H' b xs := by
  rcases h with (h | ⟨o, h⟩) | h
  · exact .inl (.inl (x _ _ h n))
  · exact .inl (.inr ⟨o, x _ _ h n⟩)
  · exact .inr h
theorem ok_pick (T : Tx K mg) : FnOk P w K mg base CX0 2 T.a_law_pick T.d_law_pick ["dice", "items"] (spPick K) := by
  have nd := sc__law_pick.nd
  have G := ok_roll (P := P) (w := w) (base := base) T
  refine T.f_law_pick.ok sc__law_pick (fun vs H Q E h => ?_) (fun cdv A outer s H vs Q E hr h => ?_)
  · obtain ⟨a, b, n, xs, rfl, _⟩ := h
    rfl
  · obtain ⟨a, b, n, xs, rfl, hd, hn, hb, ne, l0, l1, q⟩ := h
    refine ⟨_, (pss_one (ps_ret (pe_ix ix_list (pv 1) (pe_call G (hr.mono (by decide)) (by rfl) T.g_law_roll T.f_law_roll.kp T.n_law_roll .nil pass0 (pa_cons (pv 0) (pa_cons (pe_callB call_len_seq (by rfl) T.b_len (by decide +kernel) (pa_cons (pv 1) pa_nil)) pa_nil))) (fun _ _ => rfl)))), ?_⟩
    refine ⟨_, rfl, _, rfl, _, rfl, b, xs, rfl, .inl hb, a, n, _, rfl, hd, hn, by omega, by omega, fun r H' bt hd' r0 r1 => ?_⟩
    have lt : r.toNat < xs.length := by omega
    have e : xs[r.toNat]? = some xs[r.toNat] := List.getElem?_eq_getElem lt
    refine ⟨b, xs, r, _, rfl, rfl, bt.sq hb ne, ?_, q _ _ _ bt hd' e⟩
    exact at_of (by omega) e
end
end K12
/-! Compared with an empty list, an empty tuple. -/
namespace Kx
open PySem PySem.Spec PyProof.Rows L2
section
variable {X : Cx}
def rNilL (K : PySem.W.Frag) (g : Bool → Bool) : R2 := fun x y H Q => ∃ a b xs, x = .ref a ∧ y = .ref b ∧ SqL K H a xs ∧ SqL K H b [] ∧ Q (.bl (g xs.isEmpty)) H
def rNilT (K : PySem.W.Frag) (g : Bool → Bool) : R2 := fun x y H Q => ∃ a b xs, x = .ref a ∧ y = .ref b ∧ SqT K H a xs ∧ SqT K H b [] ∧ Q (.bl (g xs.isEmpty)) H
theorem op_neNil (hu : X.A.units + 64 < cLine) : OpR X (compareOp .NotEq) (rNilL X.K fun b => !b) := by
  intro pins s σ H x y v u Q I rx ry h
  obtain ⟨a, b, xs, rfl, rfl, ha, hb, q⟩ := h
  cases xs with
  | nil => exact op_neD hu pins s σ H _ _ v u Q I rx ry ⟨.list [], .list [], .lst ha .nil, .lst hb .nil, rfl, rfl, by simpa [PyData.eqv, PyData.eqvAll] using q⟩
  | cons z zs =>
    cases rx
    cases ry
    obtain ⟨i1, r1, p1, _⟩ := I.list ha
    obtain ⟨i2, r2, p2, _⟩ := I.list hb
    cases r2
    have ne : (i1.toArray.size != (#[] : Array Value).size) = true := by
      cases r1
      simp
    exact SeqAt.RcNeAt.lists_lengths p1.isList p2.isList ne (by omega) _ _ _ _ ⟨.bl _, H, I, rfl, q⟩
theorem op_eqNil (hu : X.A.units + 64 < cLine) : OpR X (compareOp .Eq) (rNilL X.K fun b => b) := by
  intro pins s σ H x y v u Q I rx ry h
  obtain ⟨a, b, xs, rfl, rfl, ha, hb, q⟩ := h
  cases xs with
  | nil => exact op_eqD hu pins s σ H _ _ v u Q I rx ry ⟨.list [], .list [], .lst ha .nil, .lst hb .nil, rfl, rfl, by simpa [PyData.eqv, PyData.eqvAll] using q⟩
  | cons z zs =>
    cases rx
    cases ry
    obtain ⟨i1, r1, p1, _⟩ := I.list ha
    obtain ⟨i2, r2, p2, _⟩ := I.list hb
    cases r2
    have ne : (i1.toArray.size != (#[] : Array Value).size) = true := by
      cases r1
      simp
    exact SeqAt.RcAt.lists_lengths p1.isList p2.isList ne (by omega) _ _ _ _ ⟨.bl _, H, I, rfl, q⟩
end
end Kx
/-! Items mixed. -/
namespace K12
open PySem PySem.Spec PyProof.Rows L2 Kx
theorem erase_perm {α : Type} : ∀ {l : List α} {k : Nat} {y : α}, l[k]? = some y → (y :: l.eraseIdx k).Perm l
  | [], _, _, h => by simp at h
  | x :: l, 0, y, h => by
    simp at h
    subst h
    exact List.Perm.refl _
  | x :: l, k + 1, y, h => by
    have ih := erase_perm (l := l) (k := k) (y := y) (by simpa using h)
    rw [List.eraseIdx_cons_succ]
    exact (List.Perm.swap _ _ _).trans (ih.cons x)
theorem Dice.same {H H' : Hp} {a : Addr} {n : Nat} (d : Dice H a n) (e : H' a = H a) : Dice H' a n := by
  obtain ⟨i0, i1, i2, h, r⟩ := d
  exact ⟨i0, i1, i2, by rw [e, h], r⟩
section
variable {P : Program} {w : World} {K : PySem.W.Frag} {mg : Str → Option Value} {base : Heap}
/-- items in another order, a new list -/
def spMixed (K : PySem.W.Frag) : Sp := fun vs H Q _ => ∃ (a b : Addr) (n : Nat) (xs : List V), vs = [.ref a, .ref b] ∧ Dice H a n ∧ n + xs.length < cap ∧ SqL K H b xs ∧ b ≠ a ∧ xs.length < 1000 ∧
  ∀ (ys : List V) (p : Addr) H', But a H H' → Dice H' a (n + xs.length) → ys.Perm xs → H p = none → p ≠ a → H' p = some (.lst ys) → Q (.ref p) H'
theorem ok_mixed (T : Tx K mg) : FnOk P w K mg base CX0 2 T.a_law_mixed T.d_law_mixed ["dice", "items"] (spMixed K) := by
  have nd := sc__law_mixed.nd
  have G := ok_roll (P := P) (w := w) (base := base) T
  refine T.f_law_mixed.ok sc__law_mixed (fun vs H Q E h => ?_) (fun cdv A outer s H vs Q E hr h => ?_)
  · obtain ⟨a, b, n, xs, rfl, _⟩ := h
    rfl
  · obtain ⟨a, b, n, xs, rfl, hd, hn, hb, ne, l1, q⟩ := h
    refine ⟨_, (pss_cons (ps_par (i := 2) (j := 3) (by rfl) nd rfl rfl (by decide) rfl rfl (pa_cons (pe_callTy call_list_of (by rfl) T.b_list (by decide +kernel) (pa_cons (pv 1) pa_nil)) (pa_cons (pe_lst pa_nil) pa_nil)) (by rfl))
      (pss_cons (ps_while PassesOwn.never (pt_cmpR (op_neNil hr.units) (pv 2) (pe_lst pa_nil) (nomark _)) (pss_one (ps_expr (pe_bm PySem.F.plainAttrs_list PySem.F.slot_list_append PySem.F.type_list_append mt_append (pv 3) (pa_cons (pe_bm PySem.F.plainAttrs_list PySem.F.slot_list_pop PySem.F.type_list_pop mt_popAt (pv 2) (pa_cons (pe_call G (hr.mono (by decide)) (by rfl) T.g_law_roll T.f_law_roll.kp T.n_law_roll .nil pass0 (pa_cons (pv 0) (pa_cons (pe_callB call_len_seq (by rfl) T.b_len (by decide +kernel) (pa_cons (pv 2) pa_nil)) pa_nil))) pa_nil)) pa_nil)))))
      (pss_one (ps_ret (pv 3))))), ?_⟩
    have na : ∀ {p : Addr}, H p = none → p ≠ a := fun h e => by
      subst e
      obtain ⟨i0, i1, i2, z, _⟩ := hd
      rw [z] at h
      cases h
    refine ⟨_, rfl, b, xs, rfl, .inl hb, fun l nl => ⟨Nat.zero_le _, fun f nf => ?_⟩⟩
    have nl' : H l = none := nl
    have nfl : f ≠ l := fun e => by
      subst e
      rw [upd_same] at nf
      cases nf
    have nf' : H f = none := by
      rw [← nf, upd_ne nfl]
    refine ⟨_, _, rfl, ?_⟩
    -- the loop: what is left at l, what is found at f
    refine ⟨fun m σ H2 => σ = [some (.ref a), some (.ref b), some (.ref l), some (.ref f)] ∧ ∃ ls fs : List V, m = ls.length ∧ H2 l = some (.lst ls) ∧ H2 f = some (.lst fs) ∧ (fs ++ ls).Perm xs ∧ But a H H2 ∧ Dice H2 a (n + fs.length),
      ⟨xs.length, rfl, xs, [], rfl, ?_, upd_same, List.Perm.refl _, ?_, ?_⟩, ?_⟩
    · rw [upd_ne nfl.symm, upd_same]
    · exact But.of ((same_new nl').trans (same_new nf))
    · exact (hd.up ((same_new nl').trans (same_new nf))).le (by omega)
    rintro m σ H2 ⟨rfl, ls, fs, rfl, el, ef, pm, bt, dd⟩
    have len := pm.length_eq
    rw [List.length_append] at len
    refine ⟨_, rfl, Nat.zero_le _, fun e ne' => ?_⟩
    have s3 : Same H2 (upd H2 e (.lst [])) := same_new ne'
    refine ⟨l, e, ls, rfl, rfl, .inl (.inl (s3 _ _ el)), .inl (.inl upd_same), _, rfl, ?_⟩
    cases ls with
    | nil =>
      -- the end
      refine iteF ⟨_, rfl, q fs f _ (bt.trans (But.of s3)) ((dd.up s3).le ?_) ?_ nf' (na nf') (s3 _ _ ef)⟩
      · simp at len
        omega
      · simpa using pm
    | cons y0 ys0 =>
      refine iteT ⟨fun σ' H' => ∃ m', m' < (y0 :: ys0).length ∧ _, fun _ _ h => h, ?_⟩
      have sl : SqL K (upd H2 e (.lst [])) l (y0 :: ys0) := .inl (.inl (s3 _ _ el))
      rw [List.length_cons] at len
      refine ⟨_, rfl, .inl ⟨rfl, fs, .inl (.inl (s3 _ _ ef))⟩, _, rfl, .inl ⟨rfl, _, sl⟩, _, rfl, _, rfl, l, _, rfl, .inl sl, a, n + fs.length, _, rfl, dd.up s3, by omega, by rw [List.length_cons]; omega, by rw [List.length_cons]; omega, fun r H4 b4 d4 r0 r1 => ?_⟩
      have nla : l ≠ a := na nl'
      have nfa : f ≠ a := na nf'
      have el4 := b4 _ _ (s3 _ _ el) nla
      have ef4 := b4 _ _ (s3 _ _ ef) nfa
      have lt : r.toNat < (y0 :: ys0).length := by omega
      have ey : (y0 :: ys0)[r.toNat]? = some (y0 :: ys0)[r.toNat] := List.getElem?_eq_getElem lt
      generalize (y0 :: ys0)[r.toNat] = y at ey
      have bound : (y0 :: ys0).length < 1000 := by
        rw [List.length_cons]
        omega
      refine ⟨l, _, r, r.toNat, y, rfl, rfl, el4, by omega, by omega, PySem.seqIndex_of r0 r1, ey, ?_⟩
      have ef5 : (upd H4 l (.lst ((y0 :: ys0).eraseIdx r.toNat))) f = some (.lst fs) := by
        rw [upd_ne nfl]
        exact ef4
      refine ⟨f, fs, y, rfl, rfl, ef5, small1000 (by omega), ?_⟩
      have lne : ((y0 :: ys0).eraseIdx r.toNat).length + 1 = (y0 :: ys0).length := by
        rw [List.length_eraseIdx_of_lt lt, Nat.sub_add_cancel (by simp)]
      refine ⟨_, by omega, rfl, (y0 :: ys0).eraseIdx r.toNat, fs ++ [y], rfl, ?_, upd_same, ?_, ?_, ?_⟩
      · rw [upd_ne nfl.symm, upd_same]
      · refine List.Perm.trans ?_ pm
        rw [List.append_assoc]
        exact (erase_perm ey).append_left fs
      · intro c o hc hne
        rw [upd_ne (ne_of_none hc nf'), upd_ne (ne_of_none hc nl')]
        exact b4 _ _ (s3 _ _ (bt c o hc hne)) hne
      · rw [List.length_append, List.length_singleton, ← Nat.add_assoc]
        exact d4.same (by rw [upd_ne nfa.symm, upd_ne nla.symm])
end
end K12
/-! Names and forms. -/
namespace K12
open PySem PySem.Spec PyProof.Rows L2 Kx
def letter (c : Nat) : Bool := decide (97 ≤ c) && decide (c ≤ 122)
def isNm (x : Str) : Bool := decide (1 ≤ x.length) && decide (x.length ≤ 8) && x.cps.all letter
theorem ascii_table : ((List.range 128).all fun c => (letter c == (Unicode.isAlpha c && !(Unicode.isUpper c || Unicode.isTitle c))) && (!letter c || Unicode.isLower c)) = true := by decide +kernel
theorem ascii_at {c : Nat} (h : c < 128) : letter c = (Unicode.isAlpha c && !(Unicode.isUpper c || Unicode.isTitle c)) ∧ (letter c = true → Unicode.isLower c = true) := by
  have z := List.all_eq_true.mp ascii_table c (List.mem_range.mpr h)
  rw [Bool.and_eq_true, beq_iff_eq] at z
  refine ⟨z.1, fun l => ?_⟩
  have y := z.2
  rw [l] at y
  simpa using y
theorem letter_ascii {c : Nat} (h : letter c = true) : c < 128 := by
  unfold letter at h
  simp at h
  omega
theorem name_txt (x : Str) : (Txt.isascii x && (Txt.isalpha x && Txt.islower x)) = (decide (1 ≤ x.length) && x.cps.all letter) := by
  rw [Bool.eq_iff_iff]
  simp only [Bool.and_eq_true, Txt.isascii, Txt.isalpha, Txt.islower, Array.all_eq_true, Array.any_eq_true, Bool.not_eq_true', decide_eq_true_eq]
  constructor
  · rintro ⟨h1, ⟨h2, h3⟩, h4, h5⟩
    refine ⟨h2, fun i hi => ?_⟩
    rw [(ascii_at (by simpa using h1 i hi)).1, h3 i hi, Bool.true_and, Bool.not_eq_true']
    exact (by
      have z : ¬ (x.cps.any fun c => Unicode.isUpper c || Unicode.isTitle c) = true := by rw [h5]; exact Bool.false_ne_true
      rw [Array.any_eq_true] at z
      cases e : (Unicode.isUpper x.cps[i] || Unicode.isTitle x.cps[i]) with
      | false => rfl
      | true => exact absurd ⟨i, hi, e⟩ z)
  · rintro ⟨h1, h2⟩
    have a : ∀ (i : Nat) (hi : i < x.cps.size), x.cps[i] < 128 := fun i hi => letter_ascii (h2 i hi)
    have b : ∀ (i : Nat) (hi : i < x.cps.size), Unicode.isAlpha x.cps[i] = true ∧ (Unicode.isUpper x.cps[i] || Unicode.isTitle x.cps[i]) = false := fun i hi => by
      have z := h2 i hi
      rw [(ascii_at (a i hi)).1] at z
      simpa using z
    refine ⟨fun i hi => by simpa using a i hi, ⟨h1, fun i hi => (b i hi).1⟩, ⟨0, h1, (ascii_at (a 0 h1)).2 (h2 0 h1)⟩, ?_⟩
    cases e : (x.cps.any fun c => Unicode.isUpper c || Unicode.isTitle c) with
    | false => rfl
    | true =>
      obtain ⟨i, hi, z⟩ := Array.any_eq_true.mp e
      rw [(b i hi).2] at z
      cases z
def nameD : PyData → Bool
  | .str x => isNm x
  | _ => false
/-- a tuple of a name and at most three others -/
def formD : PyData → Bool
  | .tuple (d :: ds) => decide (ds.length ≤ 3) && nameD d
  | _ => false
theorem kit_str : ∀ d : PyData, kitB (tyD d) "str" = some (match d with | .str _ => true | _ => false)
  | .none => (by decide +kernel : kitB "NoneType" "str" = some false)
  | .bool _ => (by decide +kernel : kitB "bool" "str" = some false)
  | .int _ => (by decide +kernel : kitB "int" "str" = some false)
  | .str _ => (by decide +kernel : kitB "str" "str" = some true)
  | .list _ => (by decide +kernel : kitB "list" "str" = some false)
  | .tuple _ => (by decide +kernel : kitB "tuple" "str" = some false)
  | .dict _ => (by decide +kernel : kitB "dict" "str" = some false)
theorem kit_tuple : ∀ d : PyData, kitB (tyD d) "tuple" = some (match d with | .tuple _ => true | _ => false)
  | .none => (by decide +kernel : kitB "NoneType" "tuple" = some false)
  | .bool _ => (by decide +kernel : kitB "bool" "tuple" = some false)
  | .int _ => (by decide +kernel : kitB "int" "tuple" = some false)
  | .str _ => (by decide +kernel : kitB "str" "tuple" = some false)
  | .list _ => (by decide +kernel : kitB "list" "tuple" = some false)
  | .tuple _ => (by decide +kernel : kitB "tuple" "tuple" = some true)
  | .dict _ => (by decide +kernel : kitB "dict" "tuple" = some false)
section
variable {P : Program} {w : World} {K : PySem.W.Frag} {mg : Str → Option Value} {base : Heap}
def spNm (K : PySem.W.Frag) : Sp := fun vs H Q _ => ∃ (x : V) (d : PyData), vs = [x] ∧ Dx K H x d ∧ (∀ y, d = .str y → y.length ≤ sizeLine) ∧ Q (.bl (nameD d)) H
theorem ok_name (T : Tx K mg) : FnOk P w K mg base CX0 1 T.ais_name T.dis_name ["value"] (spNm K) := by
  have nd := sc_is_name.nd
  obtain ⟨tk, hL⟩ := T.c_LONGEST_NAME
  refine T.fis_name.ok sc_is_name (fun vs H Q E h => ?_) (fun cdv A outer s H vs Q E hr h => ?_)
  · obtain ⟨x, d, rfl, _⟩ := h
    rfl
  · obtain ⟨x, d, rfl, hx, hz, q⟩ := h
    refine ⟨_, (pss_cons (ps_if (PW.pt (pw_or (pt_not (pt_val (pe_callB call_isi (by rfl) T.b_isinstance (by decide +kernel) (pa_cons (pv 0) (pa_cons (pe_bltn (v := .ty "str") (by rfl) T.b_str (by decide +kernel) rfl) pa_nil))))) (pw_or1 (pt_cmpR op_gt (pe_callB call_len_str (by rfl) T.b_len (by decide +kernel) (pa_cons (pv 0) pa_nil)) (pe_glob (v := .int 8) (by rfl) hL ⟨_, rfl⟩) (nomark _))))) (pss_one (ps_ret pe_bl)) pss_nil)
      (pss_one (ps_ret (pe_and (pe_bm0 PySem.F.plainAttrs_str PySem.F.slot_str_isascii PySem.F.type_str_isascii mt_isascii (pv 0)) (pe_and (pe_bm0 PySem.F.plainAttrs_str PySem.F.slot_str_isalpha PySem.F.type_str_isalpha mt_isalpha (pv 0)) (pe_one (pe_bm0 PySem.F.plainAttrs_str PySem.F.slot_str_islower PySem.F.type_str_islower mt_islower (pv 0)))))))), ?_⟩
    refine ⟨x, rfl, x, .ty "str", _, _, _, rfl, .ty _, hx.ty, kit_ty (kit_str d), _, rfl, ?_⟩
    cases hx with
    | str z =>
      refine iteF ⟨_, rfl, z, rfl, hz z rfl, _, _, rfl, rfl, _, rfl, ite2 (fun h8 => ?_) (fun h8 => ?_)⟩
      · -- too long
        have h9 := of_decide_eq_true h8
        have e : nameD (.str z) = false := by
          simp [nameD, isNm]
          omega
        rw [e] at q
        exact q
      · have h9 : z.length ≤ 8 := by
          simp at h8
          omega
        have e : nameD (.str z) = (Txt.isascii z && (Txt.isalpha z && Txt.islower z)) := by
          rw [name_txt]
          simp [nameD, isNm, h9]
        rw [e] at q
        refine ⟨_, rfl, rfl, z, rfl, rfl, trivial, _, rfl, ?_⟩
        cases e1 : Txt.isascii z with
        | false =>
          rw [e1] at q
          exact iteF q
        | true =>
          rw [e1, Bool.true_and] at q
          refine iteT ⟨_, rfl, rfl, z, rfl, rfl, trivial, _, rfl, ?_⟩
          cases e2 : Txt.isalpha z with
          | false =>
            rw [e2] at q
            exact iteF q
          | true =>
            rw [e2, Bool.true_and] at q
            exact iteT ⟨_, rfl, rfl, z, rfl, rfl, trivial, q⟩
    | non => exact iteT (iteT q)
    | bl b => exact iteT (iteT q)
    | int i => exact iteT (iteT q)
    | lst _ _ => exact iteT (iteT q)
    | tup _ _ => exact iteT (iteT q)
    | dic _ _ => exact iteT (iteT q)
/-- a value's form: a tuple of a name and at most three others -/
def spForm (K : PySem.W.Frag) : Sp := fun vs H Q _ => ∃ (x : V) (d : PyData), vs = [x] ∧ Dx K H x d ∧ (∀ ds, d = .tuple ds → ∀ y, .str y ∈ ds → y.length ≤ sizeLine) ∧ Q (.bl (formD d)) H
theorem ok_form (T : Tx K mg) : FnOk P w K mg base CX0 2 T.ahas_form T.dhas_form ["value"] (spForm K) := by
  have nd := sc_has_form.nd
  obtain ⟨tk, hM⟩ := T.c_MAX_PLACES
  have G := ok_name (P := P) (w := w) (base := base) T
  refine T.fhas_form.ok sc_has_form (fun vs H Q E h => ?_) (fun cdv A outer s H vs Q E hr h => ?_)
  · obtain ⟨x, d, rfl, _⟩ := h
    rfl
  · obtain ⟨x, d, rfl, hx, hz, q⟩ := h
    refine ⟨_, (pss_one (ps_ret (pe_and (pe_callB call_isi (by rfl) T.b_isinstance (by decide +kernel) (pa_cons (pv 0) (pa_cons (pe_bltn (v := .ty "tuple") (by rfl) T.b_tuple (by decide +kernel) rfl) pa_nil))) (pe_and (pe_chain op_le op_le pe_int (pe_callB call_len_seq (by rfl) T.b_len (by decide +kernel) (pa_cons (pv 0) pa_nil)) (pe_op op_add (pe_glob (v := .int 3) (by rfl) hM ⟨_, rfl⟩) pe_int)) (pe_one (pe_call G (hr.mono (by decide)) (by rfl) T.gis_name T.fis_name.kp T.nis_name .nil pass0 (pa_cons (pe_ix ix_tup (pv 0) pe_int (fun _ _ => rfl)) pa_nil))))))), ?_⟩
    refine ⟨x, rfl, x, .ty "tuple", _, _, _, rfl, .ty _, hx.ty, kit_ty (kit_tuple d), _, rfl, ?_⟩
    cases hx with
    | tup ha hs =>
      rename_i a xs ds
      have len := hs.length
      refine iteT ⟨_, rfl, a, xs, rfl, .inr (SqT.of ha), 1, _, rfl, rfl, _, rfl, ite2 (fun h1 => ?_) (fun h1 => ?_)⟩
      · have l1 : 0 < xs.length := by
          have := of_decide_eq_true h1
          omega
        refine ⟨3, 1, rfl, rfl, _, _, rfl, rfl, _, rfl, ite2 (fun h4 => ?_) (fun h4 => ?_)⟩
        · have l4 : xs.length ≤ 4 := by
            have := of_decide_eq_true h4
            omega
          cases hs with
          | nil => simp at l1
          | cons h0 ht =>
            rename_i v vs d ds
            refine ⟨_, rfl, a, _, 0, v, rfl, rfl, SqT.of ha, atI_nat (j := 0) rfl, v, d, rfl, h0, fun y e => hz _ rfl y (by rw [e]; exact List.mem_cons_self), ?_⟩
            have e : formD (.tuple (d :: ds)) = nameD d := by
              have := ht.length
              simp [formD]
              rw [List.length_cons] at l4
              omega
            rw [e] at q
            exact q
        · have e : formD (.tuple ds) = false := by
            cases ds with
            | nil => rfl
            | cons d ds =>
              rw [List.length_cons] at len
              simp [formD]
              intro z
              simp at h4
              omega
          rw [e] at q
          exact q
      · have e : formD (.tuple ds) = false := by
          cases ds with
          | nil => rfl
          | cons d ds =>
            rw [List.length_cons] at len
            simp at h1
            omega
        rw [e] at q
        exact ⟨_, rfl, iteF q⟩
    | non => exact iteF q
    | bl b => exact iteF q
    | int i => exact iteF q
    | lst _ _ => exact iteF q
    | str _ => exact iteF q
    | dic _ _ => exact iteF q
end
end K12
/-! What is a term, over data. -/
namespace K12
open PySem PySem.Spec PyProof.Rows L2 Kx
mutual
/-- how many parts, all counted -/
def szD : PyData → Nat
  | .tuple ds => szAll ds + 1
  | _ => 1
def szAll : List PyData → Nat
  | [] => 0
  | d :: ds => szD d + szAll ds
end
mutual
/-- of the form, all through -/
def formedD : PyData → Bool
  | .tuple (d :: ds) => decide (ds.length ≤ 3) && nameD d && formedAll ds
  | _ => false
def formedAll : List PyData → Bool
  | [] => true
  | d :: ds => formedD d && formedAll ds
end
abbrev NK := Str × Nat
def headD : PyData → Str
  | .str x => x
  | _ => Str.empty
mutual
/-- the names in a formed datum, with their places -/
def rowsD : PyData → List NK
  | .tuple (d :: ds) => (headD d, ds.length) :: rowsAll ds
  | _ => []
def rowsAll : List PyData → List NK
  | [] => []
  | d :: ds => rowsD d ++ rowsAll ds
end
mutual
/-- texts are short -/
def shortD : PyData → Bool
  | .str x => decide (x.length ≤ 1000)
  | .tuple ds => shortAll ds
  | _ => true
def shortAll : List PyData → Bool
  | [] => true
  | d :: ds => shortD d && shortAll ds
end
def Func (l : List NK) : Prop := ∀ p, p ∈ l → ∀ q, q ∈ l → p.1 = q.1 → p.2 = q.2
instance (l : List NK) : Decidable (Func l) := decidable_of_iff (∀ p ∈ l, ∀ q ∈ l, p.1 = q.1 → p.2 = q.2) ⟨fun h => h, fun h => h⟩
def termD (d : PyData) : Bool := formedD d && decide (Func (rowsD d))
theorem szD_pos (d : PyData) : 0 < szD d := by
  cases d <;> simp [szD]
theorem szAll_append : ∀ (l m : List PyData), szAll (l ++ m) = szAll l + szAll m
  | [], m => by simp [szAll]
  | d :: l, m => by simp [szAll, szAll_append l m, Nat.add_assoc]
theorem formedAll_append : ∀ (l m : List PyData), formedAll (l ++ m) = (formedAll l && formedAll m)
  | [], m => by simp [formedAll]
  | d :: l, m => by simp [formedAll, formedAll_append l m, Bool.and_assoc]
theorem rowsAll_append : ∀ (l m : List PyData), rowsAll (l ++ m) = rowsAll l ++ rowsAll m
  | [], m => by simp [rowsAll]
  | d :: l, m => by simp [rowsAll, rowsAll_append l m]
theorem shortAll_append : ∀ (l m : List PyData), shortAll (l ++ m) = (shortAll l && shortAll m)
  | [], m => by simp [shortAll]
  | d :: l, m => by simp [shortAll, shortAll_append l m, Bool.and_assoc]
theorem length_le_sz : ∀ l : List PyData, l.length ≤ szAll l
  | [] => Nat.le_refl _
  | d :: l => by
    have := length_le_sz l
    have := szD_pos d
    simp only [List.length_cons, szAll]
    omega
theorem Func.congr {l m : List NK} (h : ∀ p, p ∈ l ↔ p ∈ m) : Func l ↔ Func m :=
  ⟨fun f p hp q hq => f p ((h p).mpr hp) q ((h q).mpr hq), fun f p hp q hq => f p ((h p).mp hp) q ((h q).mp hq)⟩
/-- what is still to be seen: the names so far, the data that wait -/
def Todo (m : List NK) (st : List PyData) : Prop := formedAll st = true ∧ Func (m ++ rowsAll st)
theorem todo_one (d : PyData) : Todo [] [d] ↔ termD d = true := by
  simp [Todo, termD, formedAll, rowsAll]
theorem todo_bad {m : List NK} {st : List PyData} {e : PyData} (h : formD e = false) : ¬ Todo m (st ++ [e]) := by
  rintro ⟨h1, _⟩
  rw [formedAll_append] at h1
  simp [formedAll] at h1
  cases e with
  | tuple ds =>
    cases ds with
    | nil => simp [formedD] at h1
    | cons d ds =>
      simp [formD] at h
      simp [formedD] at h1
      obtain ⟨_, ⟨a, b⟩, c⟩ := h1
      have := h a
      rw [b] at this
      cases this
  | _ => simp [formedD] at h1
theorem todo_clash {m : List NK} {st ds : List PyData} {x : Str} {k : Nat} (h : (x, k) ∈ m) (hk : k ≠ ds.length) : ¬ Todo m (st ++ [.tuple (.str x :: ds)]) := by
  rintro ⟨_, h2⟩
  refine hk (h2 (x, k) (List.mem_append_left _ h) (x, ds.length) (List.mem_append_right _ ?_) rfl)
  rw [rowsAll_append]
  simp [rowsAll, rowsD, headD]
theorem todo_step {m m' : List NK} {st ds : List PyData} {x : Str} (hf : formD (.tuple (.str x :: ds)) = true) (hm : ∀ p, p ∈ m' ↔ p ∈ m ∨ p = (x, ds.length)) :
    Todo m (st ++ [.tuple (.str x :: ds)]) ↔ Todo m' (st ++ ds) := by
  unfold Todo
  rw [formedAll_append, formedAll_append, rowsAll_append, rowsAll_append]
  have e1 : formedAll [.tuple (.str x :: ds)] = formedAll ds := by
    simp [formD] at hf
    simp [formedAll, formedD, hf.1, hf.2]
  rw [e1]
  refine and_congr Iff.rfl (Func.congr fun p => ?_)
  simp only [List.mem_append, rowsAll, rowsD, headD, hm, List.append_nil, List.mem_cons]
  constructor
  · rintro (h | h | h | h)
    · exact .inl (.inl h)
    · exact .inr (.inl h)
    · exact .inl (.inr h)
    · exact .inr (.inr h)
  · rintro ((h | h) | h | h)
    · exact .inl h
    · exact .inr (.inr (.inl h))
    · exact .inr (.inl h)
    · exact .inr (.inr (.inr h))
theorem todo_done {m : List NK} (h : Func m) : Todo m [] := ⟨rfl, by simpa [rowsAll] using h⟩
end K12
/-! joint_places, is_term, is_cell, check_term. -/
namespace K12
open PySem PySem.Spec PyProof.Rows L2 Kx
theorem snocDx {K : PySem.W.Frag} {H : Hp} : ∀ {vs : List V} {st : List PyData} {e : PyData}, DxAll K H vs (st ++ [e]) → ∃ us v, vs = us ++ [v] ∧ DxAll K H us st ∧ Dx K H v e
  | _, [], e, h => by
    cases h with
    | cons a t =>
      cases t
      exact ⟨[], _, rfl, .nil, a⟩
  | _, d :: st, e, h => by
    cases h with
    | cons a t =>
      obtain ⟨us, v, rfl, q, r⟩ := snocDx t
      exact ⟨_ :: us, v, rfl, .cons a q, r⟩
theorem snoc_or {α : Type} (l : List α) : l = [] ∨ ∃ st e, l = st ++ [e] := by
  rcases List.eq_nil_or_concat l with h | ⟨st, e, h⟩
  · exact .inl h
  · exact .inr ⟨st, e, by rw [h, List.concat_eq_append]⟩
/-- a dict of names and places -/
def dictOf (m : List NK) : List (Key × V) := m.map fun p => (Sum.inr p.1, V.int p.2)
theorem val_some {x : Str} {v : V} : ∀ {m : List NK}, valV (dictOf m) (Sum.inr x) = some v → ∃ k, (x, k) ∈ m ∧ v = .int k
  | [], h => by cases h
  | p :: m, h => by
    by_cases e : p.1 = x
    · rw [show dictOf (p :: m) = (Sum.inr p.1, V.int p.2) :: dictOf m from rfl, valV_pos (by rw [e])] at h
      exact ⟨p.2, by rw [← e]; exact List.mem_cons_self, (Option.some.inj h).symm⟩
    · rw [show dictOf (p :: m) = (Sum.inr p.1, V.int p.2) :: dictOf m from rfl, valV_neg (fun z => e (Sum.inr.inj z))] at h
      obtain ⟨k, a, b⟩ := val_some h
      exact ⟨k, List.mem_cons_of_mem _ a, b⟩
theorem val_none {x : Str} : ∀ {m : List NK}, valV (dictOf m) (Sum.inr x) = none → ∀ k, (x, k) ∉ m
  | [], _, k => fun z => (nomatch z)
  | p :: m, h, k => by
    by_cases e : p.1 = x
    · rw [show dictOf (p :: m) = (Sum.inr p.1, V.int p.2) :: dictOf m from rfl, valV_pos (by rw [e])] at h
      cases h
    · rw [show dictOf (p :: m) = (Sum.inr p.1, V.int p.2) :: dictOf m from rfl, valV_neg (fun z => e (Sum.inr.inj z))] at h
      intro z
      rcases List.mem_cons.mp z with z | z
      · exact e (by rw [← z])
      · exact val_none h k z
theorem short_mem : ∀ {ds : List PyData} {y : Str}, shortAll ds = true → PyData.str y ∈ ds → y.length ≤ 1000
  | [], _, _, h => (nomatch h)
  | d :: ds, y, hs, h => by
    rw [shortAll, Bool.and_eq_true] at hs
    rcases List.mem_cons.mp h with e | h
    · rw [← e] at hs
      simpa [shortD] using hs.1
    · exact short_mem hs.2 h
theorem cut_one {xs : List V} (h : xs ≠ []) : cutV xs (some 1) none = xs.drop 1 := by
  unfold cutV
  rw [show HT.sIx xs.length 0 (some 1) = min 1 xs.length from HT.sIx_nat xs.length 0 1, HT.sIx_none]
  cases xs with
  | nil => exact absurd rfl h
  | cons x r =>
    rw [show min 1 (x :: r).length = 1 by rw [List.length_cons]; omega]
    simp
theorem iteNT {c A B : Prop} [Decidable c] (hc : ¬ c) (h : A) : if (!decide c) = true then A else B := by
  rw [decide_eq_false hc]
  exact iteT h
section
variable {P : Program} {w : World} {K : PySem.W.Frag} {mg : Str → Option Value} {base : Heap}
def jointD (ds : List PyData) : Bool := formedAll ds && decide (Func (rowsAll ds))
theorem joint_todo (ds : List PyData) : Todo [] ds ↔ jointD ds = true := by
  unfold Todo jointD
  rw [List.nil_append, Bool.and_eq_true, decide_eq_true_eq]
theorem joint_one (d : PyData) : jointD [d] = termD d := by
  unfold jointD termD
  simp [formedAll, rowsAll]
def spJointL (K : PySem.W.Frag) : Sp := fun vs H Q _ => ∃ (a : Addr) (xs : List V) (ds : List PyData), vs = [.ref a] ∧ SqL K H a xs ∧ DxAll K H xs ds ∧ shortAll ds = true ∧ szAll ds ≤ 100000 ∧
  ∀ v H', Same H H' → (jointD ds = false → v = .non) → (jointD ds = true → ∃ p ms, v = .ref p ∧ H p = none ∧ H' p = some (.dK (dictOf ms)) ∧ (ms.map Prod.fst).Nodup ∧ ms.length ≤ szAll ds ∧ ∀ r, r ∈ ms ↔ r ∈ rowsAll ds) → Q v H'
def spJoint (K : PySem.W.Frag) : Sp := fun vs H Q _ => ∃ (a : Addr) (x : V) (d : PyData), vs = [.ref a] ∧ SqL K H a [x] ∧ Dx K H x d ∧ shortD d = true ∧ szD d ≤ 100000 ∧
  ∀ v H', Same H H' → (termD d = false → v = .non) → (termD d = true → ∃ p ms, v = .ref p ∧ H p = none ∧ H' p = some (.dK (dictOf ms)) ∧ (ms.map Prod.fst).Nodup ∧ ms.length ≤ szD d ∧ ∀ r, r ∈ ms ↔ r ∈ rowsD d) → Q v H'
theorem ok_jointL (T : Tx K mg) : FnOk P w K mg base CX0 3 T.ajoint_places T.djoint_places ["values"] (spJointL K) := by
  have nd := sc_joint_places.nd
  have G := ok_form (P := P) (w := w) (base := base) T
  refine T.fjoint_places.ok sc_joint_places (fun vs H Q E h => ?_) (fun cdv A outer s H vs Q E hr h => ?_)
  · obtain ⟨a, xs0, d, rfl, _⟩ := h
    rfl
  · obtain ⟨a, xs0, d, rfl, ha, hx, hs, hz, q⟩ := h
    have hu := hu_of hr
    refine ⟨_, (pss_cons (ps_set (i := 1) nd rfl (.inl rfl) pe_dnewK)
      (pss_cons (ps_set (i := 2) nd rfl (.inl rfl) (pe_callTy call_list_of (by rfl) T.b_list (by decide +kernel) (pa_cons (pv 0) pa_nil)))
      (pss_cons (ps_while PassesOwn.never (pt_truth (pv 2) (by intro _; rfl)) (pss_cons (ps_set (i := 3) nd rfl (.inl rfl) (pe_bm0 PySem.F.plainAttrs_list PySem.F.slot_list_pop PySem.F.type_list_pop mt_pop (pv 2)))
      (pss_cons (ps_if (pt_not (pt_val (pe_call G (hr.mono (by decide)) (by rfl) T.ghas_form T.fhas_form.kp T.nhas_form .nil pass0 (pa_cons (pv 3) pa_nil)))) (pss_one (ps_ret pe_non)) pss_nil)
      (pss_cons (ps_set (i := 4) nd rfl (.inl rfl) (pe_op op_sub (pe_callB call_len_seq (by rfl) T.b_len (by decide +kernel) (pa_cons (pv 3) pa_nil)) pe_int))
      (C8.pss_cut (ps_if (pt_cmpR op_ne (pe_dsetd (pv 1) (pe_ix ix_tup (pv 3) pe_int (fun _ _ => rfl)) (pv 4) ⟨by rfl, by rfl, by rfl, by rfl⟩) (pv 4) (nomark _)) (pss_one (ps_ret pe_non)) pss_nil)
      (pss_one (ps_expr (pe_bm PySem.F.plainAttrs_list PySem.F.slot_list_extend PySem.F.type_list_extend mt_extT (pv 2) (pa_cons (pe_slice sl_tupA (pv 3) (po_some pe_int) po_none) pa_nil)))))))))
      (pss_one (ps_ret (pv 1)))))), ?_⟩
    -- places = {}; waiting = list(values)
    intro pl npl
    have s1 : Same H (upd H pl (.dK [])) := same_new npl
    refine ⟨_, rfl, a, xs0, rfl, .inl (s1.seq ha), fun wl nwl => ?_⟩
    have nwp : wl ≠ pl := fun e => by
      subst e
      rw [upd_same] at nwl
      cases nwl
    have nwl' : H wl = none := by rw [← nwl, upd_ne nwp]
    have s2 : Same H (upd (upd H pl (.dK [])) wl (.lst xs0)) := s1.trans (same_new nwl)
    refine ⟨fun m σ H2 => (∃ y3 y4, σ = [some (.ref a), some (.ref pl), some (.ref wl), y3, y4]) ∧ ∃ (vs : List V) (st : List PyData) (ms : List NK), m = szAll st ∧ H2 wl = some (.lst vs) ∧ H2 pl = some (.dK (dictOf ms)) ∧ Same H H2 ∧ DxAll K H vs st ∧
        shortAll st = true ∧ ms.length + szAll st ≤ szAll d ∧ Func ms ∧ (jointD d = true ↔ Todo ms st) ∧ (ms.map Prod.fst).Nodup ∧ (∀ r, (r ∈ ms ∨ r ∈ rowsAll st) ↔ r ∈ rowsAll d),
      ⟨szAll d, ⟨none, none, rfl⟩, xs0, d, [], rfl, upd_same, ?_, s2, hx, hs, by simp, fun p hp => (nomatch hp), (joint_todo d).symm, List.nodup_nil, fun r => by simp⟩, ?_⟩
    · rw [upd_ne nwp.symm, upd_same]
      rfl
    rintro m σ H2 ⟨⟨y3, y4, rfl⟩, vs, st, ms, rfl, ew, ep, sm, dx, sh, bd, fn, iff, nds, mem0⟩
    refine ⟨_, rfl, _, .inl ⟨vs, .inl (.inl ew), rfl⟩, ?_⟩
    rcases snoc_or st with rfl | ⟨st, e, rfl⟩
    · -- nothing waits
      cases dx
      refine iteF ⟨_, rfl, q _ _ sm (fun z => ?_) fun _ => ⟨pl, ms, rfl, npl, ep, nds, by omega, fun r => by rw [← mem0 r]; simp [rowsAll]⟩⟩
      rw [iff.mpr (todo_done fn)] at z
      cases z
    obtain ⟨us, v, rfl, dx', hv⟩ := snocDx dx
    have ne : (!(us ++ [v]).isEmpty) = true := by cases us <;> rfl
    rw [ne]
    rw [shortAll_append, Bool.and_eq_true] at sh
    have she : shortD e = true := by simpa [shortAll] using sh.2
    refine iteT ⟨fun σ' H' => ∃ m', m' < szAll (st ++ [e]) ∧ _, fun _ _ h => h, ?_⟩
    -- part = waiting.pop()
    refine ⟨_, rfl, .inl ⟨rfl, _, .inl (.inl ew)⟩, wl, _, v, rfl, rfl, ew, by simp, ?_⟩
    rw [List.dropLast_concat]
    have sm3 : Same H (upd H2 wl (.lst us)) := fun c o hc => by
      rw [upd_ne (ne_of_none hc nwl')]
      exact sm c o hc
    -- if not has_form(part): return None
    refine ⟨_, rfl, v, e, rfl, hv.up sm3, fun ds he y hy => ?_, _, rfl, ?_⟩
    · subst he
      refine Nat.le_trans (short_mem (by simpa [shortD] using she) hy) (by decide)
    cases hf : formD e with
    | false =>
      refine iteT (q .non _ sm3 (fun _ => rfl) fun z => ?_)
      exact absurd (iff.mp z) (todo_bad hf)
    | true =>
      obtain ⟨x1, es, rfl⟩ : ∃ x1 es, e = .tuple (.str x1 :: es) := by
        cases e with
        | tuple ds =>
          cases ds with
          | nil => cases hf
          | cons d0 ds =>
            simp only [formD, Bool.and_eq_true] at hf
            cases d0 with
            | str z => exact ⟨z, ds, rfl⟩
            | _ => cases hf.2
        | _ => cases hf
      cases hv with
      | tup hb hxs =>
      rename_i b xs
      cases hxs with
      | cons h0 hw =>
      rename_i v0 ws
      cases h0
      have lw := hw.length
      have l3 : es.length ≤ 3 := by
        simp only [formD, Bool.and_eq_true, decide_eq_true_eq] at hf
        exact hf.1
      -- many = len(part) - 1
      refine iteF ⟨_, rfl, b, _, rfl, .inr (SqT.of (sm3 _ _ hb)), _, 1, rfl, rfl, ?_⟩
      have em : ((V.str x1 :: ws).length : Int) - 1 = (es.length : Int) := by
        rw [List.length_cons]
        omega
      dsimp only
      rw [em]
      have ep3 : (upd H2 wl (.lst us)) pl = some (.dK (dictOf ms)) := by rw [upd_ne nwp.symm]; exact ep
      rw [szAll_append] at bd
      have z1 : szAll [PyData.tuple (.str x1 :: es)] = szAll es + 2 := by simp [szAll, szD]; omega
      rw [z1] at bd
      have lm : (dictOf ms).length < sizeLine := by
        rw [dictOf, List.length_map]
        exact Nat.lt_of_le_of_lt (show ms.length ≤ 100000 by omega) (by decide)
      have f0 : ∀ k, (x1, k) ∈ ms → k = es.length → Func ms := fun _ _ _ => fn
      -- places.setdefault(part[0], many) != many
      refine ⟨fun σ' H' => σ' = [some (.ref a), some (.ref pl), some (.ref wl), some (.ref b), some (.int es.length)] ∧ H' wl = some (.lst us) ∧ Same H H' ∧ ∃ ms', H' pl = some (.dK (dictOf ms')) ∧ (∀ p, p ∈ ms' ↔ p ∈ ms ∨ p = (x1, es.length)) ∧ Func ms' ∧ ms'.length ≤ ms.length + 1 ∧ (ms'.map Prod.fst).Nodup, ?_, ?_⟩
      · refine ⟨_, rfl, pl, rfl, .inl ⟨_, .inl ep3⟩, _, rfl, b, _, 0, _, rfl, rfl, SqT.of (sm3 _ _ hb), atI_nat (j := 0) rfl, _, rfl, dictOf ms, Sum.inr x1, ep3, rfl, lm, fun y hy => ?_, fun hy => ?_⟩
        · -- the name is there
          obtain ⟨k, mem, rfl⟩ := val_some hy
          by_cases hk : k = es.length
          · subst hk
            refine ⟨_, rfl, rfl, _, rfl, iteNS rfl ⟨rfl, upd_same, sm3, ms, ep3, fun p => ⟨.inl, fun z => ?_⟩, fn, Nat.le_succ _, nds⟩⟩
            rcases z with z | z
            · exact z
            · rw [z]
              exact mem
          · refine ⟨_, rfl, rfl, _, rfl, iteNT (fun z => hk ?_) (q .non _ sm3 (fun _ => rfl) fun z => ?_)⟩
            · have := V.int.inj z
              omega
            · exact absurd (iff.mp z) (todo_clash mem hk)
        · -- a new name
          have nk := val_none hy
          have npl' : H pl = none := npl
          refine ⟨_, rfl, rfl, _, rfl, iteNS rfl ⟨rfl, ?_, fun c o hc => ?_, ms ++ [(x1, es.length)], ?_, fun p => ?_, ?_, ?_, ?_⟩⟩
          · rw [upd_ne nwp, upd_same]
          · rw [upd_ne (ne_of_none hc npl')]
            exact sm3 c o hc
          · rw [upd_same, putK_new _ hy]
            simp [dictOf]
          · simp
          · rintro ⟨p1, p2⟩ hp ⟨r1, r2⟩ hr' e
            have e' : p1 = r1 := e
            subst e'
            simp only [List.mem_append, List.mem_singleton, Prod.mk.injEq] at hp hr'
            rcases hp with hp | ⟨g1, g2⟩
            · rcases hr' with hr' | ⟨g3, g4⟩
              · exact fn _ hp _ hr' rfl
              · subst g3
                exact absurd hp (nk _)
            · rcases hr' with hr' | ⟨g3, g4⟩
              · subst g1
                exact absurd hr' (nk _)
              · rw [g2, g4]
          · simp
          · rw [List.map_append, List.nodup_append]
            refine ⟨nds, by simp, fun a ha b hb e => ?_⟩
            obtain ⟨⟨r1, r2⟩, hr2, rfl⟩ := List.mem_map.mp ha
            simp at hb
            subst hb
            subst e
            exact nk _ hr2
      rintro σ' H' ⟨rfl, ew', sm', ms', ep', mem', fn', len', nds'⟩
      -- waiting.extend(part[1:])
      refine ⟨_, rfl, .inl ⟨rfl, _, .inl (.inl ew')⟩, _, rfl, 1, rfl, b, _, rfl, SqT.of (sm' _ _ hb), fun z => ?_, fun _ c nc => ?_⟩
      · exfalso
        have := z.1
        rw [show HT.sIx (V.str x1 :: ws).length 0 (some 1) = min 1 (V.str x1 :: ws).length from HT.sIx_nat _ 0 1, List.length_cons] at this
        omega
      have nwc : wl ≠ c := fun e => by
        rw [← e, ew'] at nc
        cases nc
      have npc : pl ≠ c := fun e => by
        rw [← e, ep'] at nc
        cases nc
      have lus := dx'.length
      have lst := length_le_sz st
      refine ⟨wl, c, us, ws, rfl, rfl, by rw [upd_ne nwc]; exact ew', ?_, ?_, ?_⟩
      · rw [cut_one (by simp)]
        exact SqT.of upd_same
      · exact Nat.le_trans (show us.length + ws.length ≤ 100003 by omega) (by decide)
      · refine ⟨szAll (st ++ es), ?_, ⟨_, _, rfl⟩, us ++ ws, st ++ es, ms', rfl, upd_same, ?_, fun d o hd => ?_, DxAll.append dx' hw, ?_, ?_, fn', iff.trans (todo_step hf mem'), nds', fun r => ?_⟩
        · rw [szAll_append, szAll_append, z1]
          omega
        · rw [upd_ne nwp.symm, upd_ne npc]
          exact ep'
        · rw [upd_ne (ne_of_none hd nwl'), upd_ne]
          · exact sm' d o hd
          · rintro rfl
            rw [sm' _ _ hd] at nc
            cases nc
        · rw [shortAll_append, sh.1]
          have z : x1.length ≤ 1000 ∧ shortAll es = true := by simpa [shortD, shortAll] using she
          simpa using z.2
        · rw [szAll_append]
          omega
        · rw [← mem0 r, mem' r, rowsAll_append, rowsAll_append]
          simp only [List.mem_append, rowsAll, rowsD, headD, List.append_nil, List.mem_cons]
          constructor
          · rintro ((h | h) | h | h)
            · exact .inl h
            · exact .inr (.inr (.inl h))
            · exact .inr (.inl h)
            · exact .inr (.inr (.inr h))
          · rintro (h | h | h | h)
            · exact .inl (.inl h)
            · exact .inr (.inl h)
            · exact .inl (.inr h)
            · exact .inr (.inr h)
theorem ok_joint (T : Tx K mg) : FnOk P w K mg base CX0 3 T.ajoint_places T.djoint_places ["values"] (spJoint K) := (ok_jointL T).imp fun vs H Q E h => by
  obtain ⟨a, x, d, rfl, ha, hx, hs, hz, q⟩ := h
  have e1 : szAll [d] = szD d := by simp [szAll]
  have e2 : rowsAll [d] = rowsD d := by simp [rowsAll]
  refine ⟨a, [x], [d], rfl, ha, .cons hx .nil, by simp [shortAll, hs], by rw [e1]; exact hz, fun v H' s h1 h2 => q v H' s (fun z => h1 (by rw [joint_one]; exact z)) fun z => ?_⟩
  obtain ⟨p, ms, a1, a2, a3, a4, a5, a6⟩ := h2 (by rw [joint_one]; exact z)
  exact ⟨p, ms, a1, a2, a3, a4, by rw [← e1]; exact a5, fun r => by rw [← e2]; exact a6 r⟩
end
end K12
/-! is_term, is_cell, check_term, make_term, make_cells. -/
namespace Kx
open PySem PySem.Spec PyProof.Rows L2
section
variable {X : Cx} {CX : CXT} {k : Nat} {f : Addr} {sp : Sp} {E : XK} {x : Str} {e : Expr} {es : List Expr} {t : TA} {p pos : Pos}
/-- f(e, ..), f a def with a star -/
theorem pe_callR (F : L2.FnR X.prog X.w X.K X.mg X.base CX k f sp) (hr : Room k X.A) (hg : Gl X x) (hm : X.mg x = some (.ref f)) (hk : PySem.W.keepIn X.K (.ref f) = true) (hx : Passes CX X E) (ha : PA X (e :: es) t) (hd : (x == ("__debug__" : Str)) = false := by decide)
    (he : starEach (e :: es) X.env = (false, eval e X.env) :: starEach es X.env := by rfl) (hpl : (backTo pos (starEach es X.env)).any (·.1) = false := by rfl) :
    PE X (.Call (.Name x p) (e :: es) [] pos) (tCall sp [] E t) := by
  refine ⟨fun pins s σ H Q I h => wpAny_Call_Name_kw (ld_glob I hg hm ?_ hd)⟩
  refine PySem.W.callWith_K (h₀ := X.base) I.ok.mod.kin hk (thn (ha.run pos pins s σ H _ I h) ?_) he hpl
  rintro us s1 ⟨vs, H1, I1, r, q⟩
  rw [List.append_nil] at q
  exact ⟨I1.kIn, wpAny_call (run_fnR F hr hx I1 r q)⟩
theorem pe_callR0 (F : L2.FnR X.prog X.w X.K X.mg X.base CX k f sp) (hr : Room k X.A) (hg : Gl X x) (hm : X.mg x = some (.ref f)) (hk : PySem.W.keepIn X.K (.ref f) = true) (hx : Passes CX X E) (hd : (x == ("__debug__" : Str)) = false := by decide) :
    PE X (.Call (.Name x p) [] [] pos) (tCall sp [] E tNil) := by
  refine ⟨fun pins s σ H Q I h => wpAny_Call_Name_kw (ld_glob I hg hm ?_ hd)⟩
  exact PySem.W.callWith_K0 I.kIn hk (wpAny_call (run_fnR F hr hx I .nil h))
end
end Kx
namespace K12
open PySem PySem.Spec PyProof.Rows L2 Kx
def cellD : PyData → Bool
  | .tuple ds => termD (.tuple ds) && decide (ds.length = 1)
  | _ => false
theorem cellD_eq {d : PyData} (h : termD d = true) : ∃ ds, d = .tuple ds := by
  cases d with
  | tuple ds => exact ⟨ds, rfl⟩
  | _ => simp [termD, formedD] at h
section
variable {P : Program} {w : World} {K : PySem.W.Frag} {mg : Str → Option Value} {base : Heap}
/-- x stands for d, of a bounded size -/
def Dz (K : PySem.W.Frag) (H : Hp) (x : V) (d : PyData) : Prop := Dx K H x d ∧ shortD d = true ∧ szD d ≤ 100000
theorem Dz.up {H H' : Hp} {x : V} {d : PyData} (h : Dz K H x d) (e : Same H H') : Dz K H' x d := ⟨h.1.up e, h.2⟩
def spTerm (K : PySem.W.Frag) : Sp := fun vs H Q _ => ∃ (x : V) (d : PyData), vs = [x] ∧ Dz K H x d ∧ ∀ H', Same H H' → Q (.bl (termD d)) H'
theorem ok_term (T : Tx K mg) : FnOk P w K mg base CX0 4 T.ais_term T.dis_term ["value"] (spTerm K) := by
  have nd := sc_is_term.nd
  have G := ok_joint (P := P) (w := w) (base := base) T
  refine T.fis_term.ok sc_is_term (fun vs H Q E h => ?_) (fun cdv A outer s H vs Q E hr h => ?_)
  · obtain ⟨x, d, rfl, _⟩ := h
    rfl
  · obtain ⟨x, d, rfl, ⟨hx, hs, hz⟩, q⟩ := h
    refine ⟨_, (pss_one (ps_ret (pe_cmpR op_notN (pe_call G (hr.mono (by decide)) (by rfl) T.gjoint_places T.fjoint_places.kp T.njoint_places .nil pass0 (pa_cons (pe_lst (pa_cons (pv 0) pa_nil)) pa_nil)) pe_non (nomark _)))), ?_⟩
    refine ⟨_, rfl, (by show 1 ≤ sizeLine; decide), fun p np => ?_⟩
    refine ⟨p, x, d, rfl, .inl (.inl upd_same), hx.up (same_new np), hs, hz, fun v H' sm n1 n2 => ⟨rfl, ?_⟩⟩
    have fin := q H' ((same_new np).trans sm)
    cases e : termD d with
    | false =>
      rw [e] at fin
      rw [n1 e]
      exact fin
    | true =>
      rw [e] at fin
      obtain ⟨c, _, ec, _⟩ := n2 e
      rw [ec]
      exact fin
def spCheck (K : PySem.W.Frag) : Sp := fun vs H Q _ => ∃ (x : V) (d : PyData), vs = [x] ∧ Dz K H x d ∧ termD d = true ∧ ∀ H', Same H H' → Q .non H'
theorem ok_check (T : Tx K mg) : FnOk P w K mg base CX0 5 T.acheck_term T.dcheck_term ["value"] (spCheck K) := by
  have nd := sc_check_term.nd
  have G := ok_term (P := P) (w := w) (base := base) T
  refine T.fcheck_term.ok sc_check_term (fun vs H Q E h => ?_) (fun cdv A outer s H vs Q E hr h => ?_)
  · obtain ⟨x, d, rfl, _⟩ := h
    rfl
  · obtain ⟨x, d, rfl, hx, ht, q⟩ := h
    refine ⟨_, (pss_one (ps_if (pt_not (pt_val (pe_call G (hr.mono (by decide)) (by rfl) T.gis_term T.fis_term.kp T.nis_term .nil pass0 (pa_cons (pv 0) pa_nil)))) (pss_one ps_never) pss_nil)), ?_⟩
    refine ⟨_, rfl, x, d, rfl, hx, fun H' sm => ⟨_, rfl, ?_⟩⟩
    rw [ht]
    exact iteF (q H' sm)
end
end K12
/-! Displays of data, all at once. -/
namespace Kx
open PySem PySem.Spec PyProof.Rows L2
/-- the heap without S -/
def OffS (S : List Addr) (H : Hp) : Hp := fun b => if b ∈ S then none else H b
def Olds (S : List Addr) (H : Hp) : Prop := ∀ b, b ∈ S → H b ≠ none
section
variable {S : List Addr} {H H' : Hp}
theorem OffS.of {b : Addr} {o : HO} (h : OffS S H b = some o) : b ∉ S ∧ H b = some o := by
  unfold OffS at h
  by_cases e : b ∈ S
  · rw [if_pos e] at h
    cases h
  · rw [if_neg e] at h
    exact ⟨e, h⟩
theorem OffS.out {b : Addr} {o : HO} (n : b ∉ S) (h : H b = some o) : OffS S H b = some o := by
  unfold OffS
  rw [if_neg n]
  exact h
theorem OffS.same (e : Same H H') : Same (OffS S H) (OffS S H') := fun b o h => by
  obtain ⟨n, h⟩ := OffS.of h
  exact OffS.out n (e b o h)
theorem OffS.all : Same (OffS S H) H := fun b o h => (OffS.of h).2
theorem Olds.up (h : Olds S H) (e : Same H H') : Olds S H' := fun b hb z => by
  have := h b hb
  cases k : H b with
  | none => exact this k
  | some o =>
    rw [e b o k] at z
    cases z
theorem Olds.new {p : Addr} (h : Olds S H) (e : H p = none) : p ∉ S := fun z => h p z e
theorem same_put {p : Addr} {o : HO} (h : H p = none) : Same H (upd H p o) := fun b x e => by
  rw [upd_ne (ne_of_none e h)]
  exact e
/-- te makes d anew -/
def Makes (K : PySem.W.Frag) (S : List Addr) (te : TE) (d : PyData) : Prop := ∀ (σ : L2.St) (H : Hp) (Q : VK), Olds S H → (∀ x H', Same H H' → Dx K (OffS S H') x d → Q x H') → te σ H Q
def MakesAll (K : PySem.W.Frag) (S : List Addr) (ta : TA) (ds : List PyData) : Prop := ∀ (σ : L2.St) (H : Hp) (Q : List V → Hp → Prop), Olds S H → (∀ xs H', Same H H' → DxAll K (OffS S H') xs ds → Q xs H') → ta σ H Q
variable {K : PySem.W.Frag} {te : TE} {ta : TA} {d : PyData} {ds : List PyData}
theorem mk_str (x : Str) : Makes K S (tC (.str x)) (.str x) := fun σ H Q _ q => q _ H (Same.refl H) (.str x)
theorem mk_int (i : Int) : Makes K S (tC (.int i)) (.int i) := fun σ H Q _ q => q _ H (Same.refl H) (.int i)
theorem mk_bl (b : Bool) : Makes K S (tC (.bl b)) (.bool b) := fun σ H Q _ q => q _ H (Same.refl H) (.bl b)
theorem mk_non : Makes K S (tC .non) .none := fun σ H Q _ q => q _ H (Same.refl H) .non
theorem mk_nil : MakesAll K S tNil [] := fun σ H Q _ q => q _ H (Same.refl H) .nil
theorem mk_cons (h1 : Makes K S te d) (h2 : MakesAll K S ta ds) : MakesAll K S (tCons te ta) (d :: ds) := fun σ H Q o q =>
  h1 σ H _ o fun x H1 s1 d1 => h2 σ H1 _ (o.up s1) fun xs H2 s2 d2 => q _ H2 (s1.trans s2) (.cons (d1.up (OffS.same s2)) d2)
theorem mk_tup (h : MakesAll K S ta ds) (few : ds.length ≤ sizeLine := by decide) : Makes K S (tTup ta) (.tuple ds) := fun σ H Q o q =>
  h σ H _ o fun xs H1 s1 d1 => ⟨by rw [d1.length]; exact few, fun p np => q _ _ (s1.trans (same_put np)) (.tup (OffS.out ((o.up s1).new np) upd_same) (d1.up (OffS.same (same_put np))))⟩
theorem mk_lst (h : MakesAll K S ta ds) (few : ds.length ≤ sizeLine := by decide) : Makes K S (tLst ta) (.list ds) := fun σ H Q o q =>
  h σ H _ o fun xs H1 s1 d1 => ⟨by rw [d1.length]; exact few, fun p np => q _ _ (s1.trans (same_put np)) (.lst (OffS.out ((o.up s1).new np) upd_same) (d1.up (OffS.same (same_put np))))⟩
theorem mk_dic0 : Makes K S tDNewK (.dict []) := fun σ H Q o q p np => q _ _ (same_put np) (.dic (OffS.out (o.new np) upd_same) .nil)
theorem mk_dic1 (k : Str) (i : Int) : Makes K S (tDisp [(tC (.str k), tC (.int i))]) (.dict [(.str k, .int i)]) := fun σ H Q o q p np => by
  refine ⟨upd_same, [(.inr k, .int i)], rfl, (by show 1 ≤ 15; decide), q _ _ (fun b u hb => ?_) (.dic (OffS.out (o.new np) upd_same) (KvD.int .nil))⟩
  have n := ne_of_none hb np
  rw [upd_ne n, upd_ne n]
  exact hb
/-- xs + ys of such lists -/
theorem mk_cat {tb : TE} {es : List PyData} (h1 : Makes K S te (.list ds)) (h2 : Makes K S tb (.list es)) (few : ds.length + es.length ≤ sizeLine := by decide) : Makes K S (tOp rCat te tb) (.list (ds ++ es)) := fun σ H Q o q =>
  h1 σ H _ o fun x H1 s1 d1 => h2 σ H1 _ (o.up s1) fun y H2 s2 d2 => by
    have d1 := d1.up (OffS.same s2)
    cases d1 with
    | lst ha hx =>
    cases d2 with
    | lst hb hy =>
    rename_i a xs b ys
    refine ⟨a, b, xs, ys, rfl, rfl, OffS.all _ _ ha, OffS.all _ _ hb, by rw [hx.length, hy.length]; exact few, fun p np => ?_⟩
    exact q _ _ (s1.trans (s2.trans (same_put np))) (.lst (OffS.out (((o.up s1).up s2).new np) upd_same) (DxAll.append (hx.up (OffS.same (same_put np))) (hy.up (OffS.same (same_put np)))))
/-- name = [..] of such data -/
theorem asg_mk {j : Nat} {rest : TS} {D : Ends} {σ : L2.St} (m : Makes K S te d) (o : Olds S H) (q : ∀ x H', Same H H' → Dx K (OffS S H') x d → rest D (σ.set j (some x)) H') : tSeq (tAsg te (gName j)) rest D σ H := m σ H _ o q
/-- name = name + [..] of such data -/
theorem cat_mk {j : Nat} {rest : TS} {D : Ends} {σ : L2.St} {i : Nat} {x : V} {es : List PyData} {tb : TE} (hx : σ[i]? = some (some x)) (d1 : Dx K (OffS S H) x (.list ds)) (m : Makes K S tb (.list es)) (few : ds.length + es.length ≤ sizeLine) (o : Olds S H)
    (q : ∀ x H', Same H H' → Dx K (OffS S H') x (.list (ds ++ es)) → rest D (σ.set j (some x)) H') : tSeq (tAsg (tOp rCat (tVar i) tb) (gName j)) rest D σ H :=
  ⟨x, hx, m σ H _ o fun y H2 s2 d2 => by
    have d1 := d1.up (OffS.same s2)
    cases d1 with
    | @lst a xs _ ha hx =>
    cases d2 with
    | @lst b ys _ hb hy =>
    refine ⟨a, b, xs, ys, rfl, rfl, OffS.all _ _ ha, OffS.all _ _ hb, by rw [hx.length, hy.length]; exact few, fun p np => ?_⟩
    exact q _ _ (s2.trans (same_put np)) (.lst (OffS.out ((o.up s2).new np) upd_same) (DxAll.append (hx.up (OffS.same (same_put np))) (hy.up (OffS.same (same_put np)))))⟩
end
end Kx
/-! A term of the turn. -/
namespace K12
open PySem PySem.Spec PyProof.Rows L2 Kx
/-- tuples stand -/
def Tups (H H' : Hp) : Prop := ∀ b xs, H b = some (.tup xs) → H' b = some (.tup xs)
theorem Tups.of {H H' : Hp} (x : Same H H') : Tups H H' := fun b xs h => x b _ h
theorem Tups.trans {H H1 H2 : Hp} (x : Tups H H1) (y : Tups H1 H2) : Tups H H2 := fun b xs h => y b xs (x b xs h)
theorem Tups.but {a : Addr} {n : Nat} {H H' : Hp} (x : But a H H') (d : Dice H a n) : Tups H H' := fun b xs h => by
  obtain ⟨_, _, _, z, _⟩ := d
  exact x b _ h (ne_of h z (fun e => nomatch e))
theorem Tups.lst {D : Addr} {H : Hp} {xs ys : List V} (h : H D = some (.lst xs)) : Tups H (upd H D (.lst ys)) := fun b zs e => by
  rw [upd_ne (ne_of e h (fun e => nomatch e))]
  exact e
mutual
/-- no list, no dict -/
def pureD : PyData → Bool
  | .list _ => false
  | .dict _ => false
  | .tuple ds => pureAll ds
  | _ => true
def pureAll : List PyData → Bool
  | [] => true
  | d :: ds => pureD d && pureAll ds
end
mutual
theorem Dx.ts {K : PySem.W.Frag} {H H' : Hp} (t : Tups H H') : ∀ (d : PyData) (x : V), pureD d = true → Dx K H x d → Dx K H' x d
  | .none, _, _, h => by cases h; exact .non
  | .bool b, _, _, h => by cases h; exact .bl b
  | .int i, _, _, h => by cases h; exact .int i
  | .str x, _, _, h => by cases h; exact .str x
  | .list ds, _, e, h => by cases e
  | .tuple ds, _, e, h => by cases h with | tup a b => exact .tup (t _ _ a) (DxAll.ts t ds _ (by simpa [pureD] using e) b)
  | .dict ds, _, e, h => by cases e
theorem DxAll.ts {K : PySem.W.Frag} {H H' : Hp} (t : Tups H H') : ∀ (ds : List PyData) (xs : List V), pureAll ds = true → DxAll K H xs ds → DxAll K H' xs ds
  | [], _, _, h => by cases h; exact .nil
  | d :: ds, _, e, h => by
    have e : pureD d = true ∧ pureAll ds = true := by simpa [pureAll] using e
    cases h with | cons a b => exact .cons (Dx.ts t d _ e.1 a) (DxAll.ts t ds _ e.2 b)
end
theorem pure_name {d : PyData} (h : nameD d = true) : pureD d = true := by
  cases d with
  | str x => rfl
  | _ => cases h
mutual
theorem pure_formed : ∀ (d : PyData), formedD d = true → pureD d = true
  | .none, h => rfl
  | .bool _, h => rfl
  | .int _, h => rfl
  | .str _, h => rfl
  | .list ds, h => by cases h
  | .dict ds, h => by cases h
  | .tuple [], h => rfl
  | .tuple (d :: ds), h => by
    simp only [formedD, Bool.and_eq_true] at h
    simp only [pureD, pureAll, Bool.and_eq_true]
    exact ⟨pure_name h.1.2, pure_formedAll ds h.2⟩
theorem pure_formedAll : ∀ (ds : List PyData), formedAll ds = true → pureAll ds = true
  | [], h => rfl
  | d :: ds, h => by
    simp only [formedAll, Bool.and_eq_true] at h
    simp only [pureAll, Bool.and_eq_true]
    exact ⟨pure_formed d h.1, pure_formedAll ds h.2⟩
end
theorem formedAll_snoc {ds : List PyData} {d : PyData} : formedAll (ds ++ [d]) = (formedAll ds && formedD d) := by
  rw [formedAll_append]
  simp [formedAll]
theorem depthAll_snoc {n : Nat} : ∀ {ds : List PyData} {d : PyData}, PyData.depthAll ds ≤ n → d.depth ≤ n → PyData.depthAll (ds ++ [d]) ≤ n
  | [], d, _, h => by simpa [PyData.depthAll] using h
  | e :: ds, d, h1, h2 => by
    rw [List.cons_append, PyData.depthAll]
    rw [PyData.depthAll] at h1
    have := depthAll_snoc (ds := ds) (d := d) (n := n) (by omega) h2
    omega
theorem formed_shape {d : PyData} (h : formedD d = true) : ∃ x ds, d = .tuple (.str x :: ds) ∧ ds.length ≤ 3 ∧ isNm x = true ∧ formedAll ds = true := by
  cases d with
  | tuple ds =>
    cases ds with
    | nil => cases h
    | cons d0 ds =>
      simp only [formedD, Bool.and_eq_true, decide_eq_true_eq] at h
      cases d0 with
      | str z => exact ⟨z, ds, rfl, h.1.1, h.1.2, h.2⟩
      | _ => cases h.1.2
  | _ => cases h
theorem formedAll_get : ∀ {ds : List PyData} {i : Nat} {d : PyData}, formedAll ds = true → ds[i]? = some d → formedD d = true
  | [], _, _, _, h => by simp at h
  | x :: ds, 0, d, hf, h => by
    simp at h
    rw [formedAll, Bool.and_eq_true, h] at hf
    exact hf.1
  | x :: ds, i + 1, d, hf, h => by
    rw [formedAll, Bool.and_eq_true] at hf
    exact formedAll_get hf.2 (by simpa using h)
theorem depthAll_get : ∀ {ds : List PyData} {i : Nat} {d : PyData}, ds[i]? = some d → d.depth ≤ PyData.depthAll ds
  | [], _, _, h => by simp at h
  | x :: ds, 0, d, h => by
    simp at h
    rw [h, PyData.depthAll]
    omega
  | x :: ds, i + 1, d, h => by
    have := depthAll_get (ds := ds) (i := i) (d := d) (by simpa using h)
    rw [PyData.depthAll]
    omega
theorem rowsAll_take : ∀ {ds : List PyData} {i : Nat} {d : PyData}, ds[i]? = some d → rowsAll (ds.take (i + 1)) = rowsAll (ds.take i) ++ rowsD d
  | ds, i, d, h => by
    rw [List.take_add_one, h, rowsAll_append]
    simp [rowsAll]
theorem rowsAll_take_le : ∀ (ds : List PyData) (i : Nat), (rowsAll (ds.take i)).length ≤ (rowsAll ds).length
  | ds, i => by
    have e := List.take_append_drop i ds
    have z : rowsAll (ds.take i ++ ds.drop i) = rowsAll ds := by rw [e]
    rw [rowsAll_append] at z
    rw [← z, List.length_append]
    omega
end K12
/-! The names of a turn. -/
namespace K12
open PySem PySem.Spec PyProof.Rows L2 Kx
/-- the heap without a -/
def Off (a : Addr) (H : Hp) : Hp := fun b => if b = a then none else H b
theorem Off.ne {a b : Addr} {H : Hp} (h : b ≠ a) : Off a H b = H b := if_neg h
theorem Off.of {a b : Addr} {H : Hp} {o : HO} (h : Off a H b = some o) : b ≠ a ∧ H b = some o := by
  unfold Off at h
  by_cases e : b = a
  · rw [if_pos e] at h
    cases h
  · rw [if_neg e] at h
    exact ⟨e, h⟩
theorem Off.same {a : Addr} {H : Hp} : Same (Off a H) H := fun b o h => (Off.of h).2
theorem But.off {a : Addr} {H H' : Hp} (h : But a H H') : Same (Off a H) (Off a H') := fun b o e => by
  obtain ⟨n, e⟩ := Off.of e
  rw [Off.ne n]
  exact h b o e n
abbrev Rw := Addr × NK
def rowO (r : NK) : HO := .tup [.str r.1, .int (r.2 : Int)]
/-- a list of rows at f -/
def RowsIn (H : Hp) (f : Addr) (zs : List Rw) : Prop := H f = some (.lst (zs.map fun z => V.ref z.1)) ∧ ∀ z, z ∈ zs → H z.1 = some (rowO z.2)
theorem RowsIn.up {H H' : Hp} {f : Addr} {zs : List Rw} (h : RowsIn H f zs) (e : Same H H') : RowsIn H' f zs := ⟨e _ _ h.1, fun z hz => e _ _ (h.2 z hz)⟩
theorem RowsIn.snoc {H : Hp} {f q : Addr} {zs : List Rw} {r : NK} (h : RowsIn H f zs) (n : H q = none) : RowsIn (upd (upd H q (rowO r)) f (.lst ((zs.map fun z => V.ref z.1) ++ [V.ref q]))) f (zs ++ [(q, r)]) := by
  have nf : q ≠ f := fun e => by
    rw [e, h.1] at n
    cases n
  refine ⟨by rw [upd_same, List.map_append]; rfl, fun z hz => ?_⟩
  rcases List.mem_append.mp hz with hz | hz
  · have := h.2 z hz
    rw [upd_ne (ne_of this h.1 (fun e => nomatch e)), upd_ne (ne_of_none this n)]
    exact this
  · rw [List.mem_singleton.mp hz, upd_ne nf, upd_same]
theorem RowsIn.len {zs : List Rw} : (zs.map fun z => V.ref z.1).length = zs.length := List.length_map ..
theorem Dice.ne {H : Hp} {a b : Addr} {n : Nat} (d : Dice H a n) (h : H b = none) : b ≠ a := fun e => by
  obtain ⟨_, _, _, z, _⟩ := d
  rw [e, z] at h
  cases h
theorem Dice.put {H : Hp} {a b : Addr} {n : Nat} {o : HO} (d : Dice H a n) (h : b ≠ a) : Dice (upd H b o) a n := d.same (upd_ne h.symm)
theorem But.free {a b : Addr} {H H' : Hp} (x : But a H H') (n : b ≠ a) (h : H' b = none) : H b = none := by
  cases e : H b with
  | none => rfl
  | some o =>
    rw [x b o e n] at h
    cases h
theorem But.put {a b : Addr} {H H' : Hp} {o : HO} (x : But a H H') (h : H b = none) : But a H (L2.upd H' b o) := fun c u hc nc => by
  rw [upd_ne (ne_of_none hc h)]
  exact x c u hc nc
theorem RowsIn.but {H H' : Hp} {a f : Addr} {n : Nat} {zs : List Rw} (h : RowsIn H f zs) (x : But a H H') (d : Dice H a n) (nf : f ≠ a) : RowsIn H' f zs := by
  obtain ⟨_, _, _, hz, _⟩ := d
  exact ⟨x _ _ h.1 nf, fun z m => x _ _ (h.2 z m) (ne_of (h.2 z m) hz (fun e => nomatch e))⟩
def pools : List (List Str) := [["a", "b", "c", "d"], ["a", "ab", "b", "ba"], ["x", "xin", "xout", "y"]]
def funcs : List Str := ["f", "g", "gg", "zzzzzzzz"]
def allN : List Str := pools.flatten ++ funcs
/-- good rows: names, few places, each name with its places; one without places -/
structure Good (l : List NK) : Prop where
  nm : ∀ r, r ∈ l → isNm r.1 = true ∧ r.2 ≤ 3
  fn : Func l
  cell : ∃ r, r ∈ l ∧ r.2 = 0
  few : l.length ≤ 20
  nd : (l.map Prod.fst).Nodup
  inn : ∀ r, r ∈ l → r.1 ∈ allN
  two : ∃ x y : Str, x ≠ y ∧ (x, 0) ∈ l ∧ (y, 0) ∈ l
theorem Good.perm {l m : List NK} (g : Good l) (h : l.Perm m) : Good m := by
  obtain ⟨x, y, n, m1, m2⟩ := g.two
  refine ⟨fun r hr => g.nm r (h.mem_iff.mpr hr), (Func.congr fun p => h.mem_iff).mp g.fn, ?_, by rw [← h.length_eq]; exact g.few, (h.map Prod.fst).nodup_iff.mp g.nd, fun r hr => g.inn r (h.mem_iff.mpr hr), x, y, n, h.mem_iff.mp m1, h.mem_iff.mp m2⟩
  obtain ⟨r, hr, e⟩ := g.cell
  exact ⟨r, h.mem_iff.mp hr, e⟩
theorem pools_ok : ∀ l, l ∈ pools → l.length = 4 ∧ l.Nodup ∧ ∀ x, x ∈ l → isNm x = true ∧ x ∉ funcs ∧ x ∈ allN := by decide +kernel
theorem funcs_ok : funcs.Nodup ∧ ∀ x, x ∈ funcs → isNm x = true ∧ x ∈ allN := by decide +kernel
theorem cut_upto {xs : List V} {i : Int} (h : 0 ≤ i) : cutV xs none (some i) = xs.take i.toNat := by
  obtain ⟨n, rfl⟩ := Int.eq_ofNat_of_zero_le h
  unfold cutV
  rw [show HT.sIx xs.length xs.length (some (n : Int)) = min n xs.length from HT.sIx_nat xs.length xs.length n, show HT.sIx xs.length 0 none = 0 from rfl, List.drop_zero, Nat.sub_zero, Int.toNat_natCast]
  by_cases e : n ≤ xs.length
  · rw [Nat.min_eq_left e]
  · rw [Nat.min_eq_right (by omega), List.take_length, List.take_of_length_le (by omega)]
theorem perm_back {α β : Type} {f : α → β} {l ys : List β} (h : l.Perm ys) : ∀ zs : List α, l = zs.map f → ∃ ws : List α, ws.Perm zs ∧ ys = ws.map f := by
  induction h with
  | nil =>
    intro zs e
    cases zs with
    | nil => exact ⟨[], List.Perm.refl _, rfl⟩
    | cons z zs => cases e
  | cons x _ ih =>
    intro zs e
    cases zs with
    | nil => cases e
    | cons z zs =>
      rw [List.map_cons] at e
      injection e with e1 e2
      obtain ⟨ws, p, q⟩ := ih zs e2
      exact ⟨z :: ws, p.cons z, by rw [List.map_cons, q, e1]⟩
  | swap x y l =>
    intro zs e
    cases zs with
    | nil => cases e
    | cons z zs =>
      cases zs with
      | nil => cases e
      | cons z2 zs =>
        rw [List.map_cons, List.map_cons] at e
        injection e with e1 e2
        injection e2 with e2 e3
        exact ⟨z2 :: z :: zs, List.Perm.swap _ _ _, by rw [List.map_cons, List.map_cons, e1, e2, e3]⟩
  | trans _ _ ih1 ih2 =>
    intro zs e
    obtain ⟨ws, p, q⟩ := ih1 zs e
    obtain ⟨vs, p2, q2⟩ := ih2 ws q
    exact ⟨vs, p2.trans p, q2⟩
theorem nodup_inj {α β : Type} {f : α → β} : ∀ {l : List α} {x y : α}, (l.map f).Nodup → x ∈ l → y ∈ l → f x = f y → x = y
  | [], _, _, _, h, _, _ => nomatch h
  | z :: l, x, y, nd, hx, hy, e => by
    rw [List.map_cons, List.nodup_cons] at nd
    rcases List.mem_cons.mp hx with h1 | h1
    · rcases List.mem_cons.mp hy with h2 | h2
      · rw [h1, h2]
      · exact absurd (List.mem_map.mpr ⟨y, h2, by rw [← e, h1]⟩) nd.1
    · rcases List.mem_cons.mp hy with h2 | h2
      · exact absurd (List.mem_map.mpr ⟨x, h1, by rw [e, h2]⟩) nd.1
      · exact nodup_inj nd.2 h1 h2 e
/-- a row as an item to be sorted -/
def rowI (z : Rw) : V × PyData := (V.ref z.1, PyData.tuple [.str z.2.1, .int (z.2.2 : Int)])
section
variable {P : Program} {w : World} {K : PySem.W.Frag} {mg : Str → Option Value} {base : Heap}
def spNames (K : PySem.W.Frag) : Sp := fun vs H Q _ => ∃ (a : Addr) (n : Nat), vs = [.ref a, .int 2] ∧ Dice H a n ∧ n + 100 < cap ∧
  ∀ (p : Addr) (zs : List Rw) H', But a H H' → Dice H' a (n + 100) → H p = none → p ≠ a → RowsIn H' p zs → Good (zs.map Prod.snd) → Q (.ref p) H'
theorem ok_names (T : Tx K mg) : FnOk P w K mg base CX0 3 T.a_law_names T.d_law_names ["dice", "few"] (spNames K) := by
  have nd := sc__law_names.nd
  have G1 := ok_roll (P := P) (w := w) (base := base) T
  have G2 := ok_pick (P := P) (w := w) (base := base) T
  have G3 := ok_mixed (P := P) (w := w) (base := base) T
  refine T.f_law_names.ok sc__law_names (fun vs H Q E h => ?_) (fun cdv A outer s H vs Q E hr h => ?_)
  · obtain ⟨a, n, rfl, _⟩ := h
    rfl
  · obtain ⟨a, n, rfl, hd, hn, q⟩ := h
    refine ⟨_, (pss_cons (ps_set (i := 2) nd rfl (.inl rfl) (pe_lst (pa_cons (pe_lst (pa_cons pe_str (pa_cons pe_str (pa_cons pe_str (pa_cons pe_str pa_nil))))) (pa_cons (pe_lst (pa_cons pe_str (pa_cons pe_str (pa_cons pe_str (pa_cons pe_str pa_nil))))) (pa_cons (pe_lst (pa_cons pe_str (pa_cons pe_str (pa_cons pe_str (pa_cons pe_str pa_nil))))) pa_nil)))))
      (C8.pss_cut (ps_set (i := 3) nd rfl (.inl rfl) (pe_call G3 (hr.mono (by omega)) (by rfl) T.g_law_mixed T.f_law_mixed.kp T.n_law_mixed .nil pass0 (pa_cons (pv 0) (pa_cons (pe_call G2 (hr.mono (by omega)) (by rfl) T.g_law_pick T.f_law_pick.kp T.n_law_pick .nil pass0 (pa_cons (pv 0) (pa_cons (pv 2) pa_nil))) pa_nil))))
      (pss_cons (ps_setLc (i := 5) (own := [("name", 4)]) (g := (gName 4)) (tt := tYes) (by rfl) nd rfl rfl (sw_true rfl rfl rfl (by decide +kernel)) (pi_list (pe_slice sl_list (pv 3) po_none (po_some (pe_op op_add pe_int (pe_call G1 (hr.mono (by omega)) (by rfl) T.g_law_roll T.f_law_roll.kp T.n_law_roll .nil pass0 (pa_cons (pv 0) (pa_cons pe_int pa_nil))))))) (blkOk_by (own := [("name", 4)]) (N := N__law_names) (sc := defScope s__law_names) (by decide +kernel)) (fun _ _ _ _ _ => pg_name (i := 4) nd rfl (.inl rfl)) (fun _ _ _ _ _ => pts_nil) (fun _ _ _ _ _ => (pe_tup (pa_cons (pv 4) (pa_cons pe_int pa_nil)))))
      (pss_cons (ps_for PassesOwn.never rfl (pi_list (pe_slice sl_list (pe_call G3 (hr.mono (by omega)) (by rfl) T.g_law_mixed T.f_law_mixed.kp T.n_law_mixed .nil pass0 (pa_cons (pv 0) (pa_cons (pe_lst (pa_cons pe_str (pa_cons pe_str (pa_cons pe_str (pa_cons pe_str pa_nil))))) pa_nil))) po_none (po_some (pe_op op_add pe_int (pe_call G1 (hr.mono (by omega)) (by rfl) T.g_law_roll T.f_law_roll.kp T.n_law_roll .nil pass0 (pa_cons (pv 0) (pa_cons (pv 1) pa_nil))))))) (pg_name (i := 4) nd rfl (.inl rfl)) (pss_one (ps_expr (pe_bm PySem.F.plainAttrs_list PySem.F.slot_list_append PySem.F.type_list_append mt_append (pv 5) (pa_cons (pe_tup (pa_cons (pv 4) (pa_cons (pe_op op_add pe_int (pe_callB (call_max2 rfl) (by rfl) T.b_max (by decide +kernel) (pa_cons pe_int (pa_cons (pe_op op_sub (pe_call G1 (hr.mono (by omega)) (by rfl) T.g_law_roll T.f_law_roll.kp T.n_law_roll .nil pass0 (pa_cons (pv 0) (pa_cons pe_int pa_nil))) pe_int) pa_nil)))) pa_nil))) pa_nil)))))
      (pss_one (ps_ret (pe_callB (cr_sortedD hr.units) (by rfl) T.b_sorted (by decide +kernel) (pa_cons (pv 5) pa_nil)))))))), ?_⟩
    -- pools
    refine ⟨(by show 4 ≤ sizeLine; decide), fun p1 n1 => ⟨(by show 4 ≤ sizeLine; decide), fun p2 n2 => ⟨(by show 4 ≤ sizeLine; decide), fun p3 n3 => ⟨(by show 3 ≤ sizeLine; decide), fun pl n4 => ?_⟩⟩⟩⟩
    have s1 := same_new (o := .lst [.str "a", .str "b", .str "c", .str "d"]) n1
    have s2 := same_new (o := .lst [.str "a", .str "ab", .str "b", .str "ba"]) n2
    have s3 := same_new (o := .lst [.str "x", .str "xin", .str "xout", .str "y"]) n3
    have s4 := same_new (o := .lst [.ref p1, .ref p2, .ref p3]) n4
    have dH := hd
    obtain ⟨i0, i1, i2, ha, _⟩ := dH
    have hpl : ∀ v, v ∈ [V.ref p1, .ref p2, .ref p3] → ∃ b l, v = .ref b ∧ l ∈ pools ∧ b ≠ a ∧ (upd (upd (upd (upd H p1 (.lst [.str "a", .str "b", .str "c", .str "d"])) p2 (.lst [.str "a", .str "ab", .str "b", .str "ba"])) p3 (.lst [.str "x", .str "xin", .str "xout", .str "y"])) pl (.lst [.ref p1, .ref p2, .ref p3])) b = some (.lst (l.map V.str)) := by
      intro v hv
      have na : ∀ {G : Hp} {b : Addr}, Same H G → G b = none → b ≠ a := fun sm e z => by
        rw [z, sm _ _ ha] at e
        cases e
      rcases List.mem_cons.mp hv with rfl | hv
      · exact ⟨p1, ["a", "b", "c", "d"], rfl, .head _, na (Same.refl H) n1, s4 _ _ (s3 _ _ (s2 _ _ upd_same))⟩
      · rcases List.mem_cons.mp hv with rfl | hv
        · exact ⟨p2, ["a", "ab", "b", "ba"], rfl, .tail _ (.head _), na s1 n2, s4 _ _ (s3 _ _ upd_same)⟩
        · cases List.mem_singleton.mp hv
          exact ⟨p3, ["x", "xin", "xout", "y"], rfl, .tail _ (.tail _ (.head _)), na (s1.trans s2) n3, s4 _ _ upd_same⟩
    have npa : pl ≠ a := fun z => by
      rw [z, s3 _ _ (s2 _ _ (s1 _ _ ha))] at n4
      cases n4
    refine ⟨fun σ' H' => But a H H' ∧ Dice H' a (n + 5) ∧ ∃ (c : Addr) (ys : List Str), σ' = [some (.ref a), some (.int 2), some (.ref pl), some (.ref c), none, none] ∧ c ≠ a ∧ H' c = some (.lst (ys.map V.str)) ∧ ys.length = 4 ∧ ys.Nodup ∧ ∀ x, x ∈ ys → isNm x = true ∧ x ∉ funcs ∧ x ∈ allN, ?_, ?_⟩
    · refine ⟨.ref a, rfl, .ref a, rfl, .ref pl, rfl, a, pl, n, _, rfl, ((((hd.up s1).up s2).up s3).up s4), by omega, .inl (.inl upd_same), npa, Nat.zero_lt_succ _, (by show 3 < 1000000; decide), fun i v H' bt dd hi => ?_⟩
      obtain ⟨b, l, rfl, hl, hb, eb⟩ := hpl v (List.mem_of_getElem? hi)
      obtain ⟨l4, lnd, lp⟩ := pools_ok l hl
      have eb' := bt _ _ eb hb
      refine ⟨a, b, n + 1, l.map V.str, rfl, dd, by rw [List.length_map]; omega, .inl (.inl eb'), hb, by rw [List.length_map]; omega, fun ys c H2 bt2 dd2 pm nc nca ec => ?_⟩
      obtain ⟨ws, pw, rfl⟩ := perm_back pm.symm l rfl
      rw [List.length_map, l4] at dd2
      exact ⟨(But.of (s1.trans (s2.trans (s3.trans s4)))).trans (bt.trans bt2), dd2, c, ws, rfl, nca, ec, by rw [pw.length_eq, l4], pw.nodup_iff.mpr lnd, fun x hx => lp x (pw.mem_iff.mp hx)⟩
    rintro σ1 H1 ⟨bt1, dd1, c, ys, rfl, nca, ec, y4, ynd, hy⟩
    -- the cells
    refine ⟨_, rfl, _, rfl, a, n + 5, 3, rfl, dd1, by omega, by decide, by decide, fun r H2 bt2 dd2 r0 r1 => ⟨2, r, rfl, rfl, _, rfl, c, _, rfl, .inl (.inl (bt2 _ _ ec nca)), fun e ne => ⟨e, rfl, ⟨_, .inl (.inl upd_same)⟩, fun D nD => ?_⟩⟩⟩
    rw [cut_upto (by omega), ← List.map_take] at nD ⊢
    have nea := dd2.ne ne
    have sne := same_new (o := .lst ((ys.take (2 + r).toNat).map V.str)) ne
    have nDa := (dd2.up sne).ne nD
    have nDH := But.free (bt1.trans (bt2.trans (But.of sne))) nDa nD
    have lc : (ys.take (2 + r).toNat).length ≤ 4 ∧ 2 ≤ (ys.take (2 + r).toNat).length := by
      rw [List.length_take]
      omega
    have hc : ∀ x, x ∈ ys.take (2 + r).toNat → isNm x = true ∧ x ∉ funcs ∧ x ∈ allN := fun x hx => hy x (List.mem_of_mem_take hx)
    have cnd : (ys.take (2 + r).toNat).Nodup := List.Nodup.sublist (List.take_sublist _ _) ynd
    generalize ys.take (2 + r).toNat = cs at lc hc cnd nD sne
    refine lc_list (K := K) (a := e) (xs := cs.map V.str) (fun i H3 => But a H H3 ∧ Dice H3 a (n + 6) ∧ H3 e = some (.lst (cs.map V.str)) ∧ ∃ zs : List Rw, RowsIn H3 D zs ∧ zs.map Prod.snd = (cs.take i).map fun x => (x, 0))
      ⟨bt1.trans (bt2.trans (But.of (sne.trans (same_new nD)))), dd2.up (sne.trans (same_new nD)), same_new nD _ _ upd_same, [], ⟨upd_same, fun z hz => (nomatch hz)⟩, by simp⟩ (fun i H3 _ h => .inl (.inl h.2.2.1)) ?_ ?_
    · rintro i y H3 hi ⟨bt3, dd3, ee, zs, ri, em⟩
      rw [List.getElem?_map] at hi
      obtain ⟨x, hx, rfl⟩ := Option.map_eq_some_iff.mp hi
      have lt : i < cs.length := (List.getElem?_eq_some_iff.mp hx).1
      have lz : zs.length = i := by
        have := congrArg List.length em
        simp only [List.length_map, List.length_take] at this
        omega
      refine ⟨rfl, (iteT (B := False) ?_ : if true = true then _ else False)⟩
      refine ⟨_, rfl, (by show 2 ≤ sizeLine; decide), fun q nq => ?_⟩
      have nqD : D ≠ q := ne_of_none ri.1 nq
      have smq := same_new (o := rowO (x, 0)) nq
      have neD : e ≠ D := fun z => by
        rw [z, upd_same] at nD
        cases nD
      refine ⟨zs.map fun z => V.ref z.1, by rw [upd_ne nqD]; exact ri.1, by rw [List.length_map]; exact small1000 (by omega), (bt3.trans (But.of smq)).put nDH, (dd3.up smq).put nDa, ?_, zs ++ [(q, (x, 0))], ri.snoc (r := (x, 0)) nq, ?_⟩
      · rw [upd_ne neD]
        exact smq _ _ ee
      · rw [List.map_append, em, List.take_add_one, hx, List.map_append]
        rfl
    rintro H3 ⟨bt3, dd3, ee, zs, ri, em⟩
    rw [List.length_map, List.take_length] at em
    clear ee sne
    -- the others
    refine ⟨_, rfl, (by show 4 ≤ sizeLine; decide), fun g ng => ⟨a, g, n + 6, funcs.map V.str, rfl, dd3.up (same_new ng), by show n + 6 + 4 < cap; omega, .inl (.inl upd_same), dd3.ne ng, by decide, fun fs p H4 bt4 dd4 pm np npa' ep => ?_⟩⟩
    obtain ⟨ws, pw, rfl⟩ := perm_back pm.symm funcs rfl
    have dd4 : Dice H4 a (n + 10) := dd4
    have ri4 := (ri.up (same_new (o := .lst (funcs.map V.str)) ng)).but bt4 (dd3.up (same_new ng)) nDa
    have bt4 := bt3.trans ((But.of (same_new (o := .lst (funcs.map V.str)) ng)).trans bt4)
    refine ⟨_, rfl, _, rfl, a, n + 10, 2, rfl, dd4, by omega, by decide, by decide, fun r5 H5 bt5 dd5 r50 r51 => ⟨1, r5, rfl, rfl, _, rfl, p, _, rfl, .inl (.inl (bt5 _ _ ep npa')), fun u nu => ⟨u, rfl, ⟨_, .inl (.inl upd_same)⟩, ?_⟩⟩⟩
    rw [cut_upto (by omega), ← List.map_take]
    have nus : u ≠ D := (ne_of_none (ri4.but bt5 dd4 nDa).1 nu).symm
    have smu := same_new (o := .lst ((ws.take (1 + r5).toNat).map V.str)) nu
    have nua := dd5.ne nu
    have lf : (ws.take (1 + r5).toNat).length ≤ 3 := by
      rw [List.length_take]
      omega
    have ndw : (ws.take (1 + r5).toNat).Nodup := List.Nodup.sublist (List.take_sublist _ _) (pw.nodup_iff.mpr funcs_ok.1)
    have hw : ∀ x, x ∈ ws.take (1 + r5).toNat → x ∈ funcs := fun x hx => pw.mem_iff.mp (List.mem_of_mem_take hx)
    have bt6 := bt4.trans (bt5.trans (But.of smu))
    have dd6 := dd5.up smu
    have ri6 := (ri4.but bt5 dd4 nDa).up smu
    generalize ws.take (1 + r5).toNat = us at lf ndw hw bt6 dd6 ri6 ⊢
    clear smu
    have lcz : zs.length = cs.length := by
      have := congrArg List.length em
      simpa only [List.length_map] using this
    refine for_list (K := K) (a := u) (xs := us.map V.str) (fun i σ H7 => But a H H7 ∧ Dice H7 a (n + 11 + i) ∧ H7 u = some (.lst (us.map V.str)) ∧ ∃ (y : Option V) (fr : List Rw), σ = [some (.ref a), some (.int 2), some (.ref pl), some (.ref c), y, some (.ref D)] ∧ RowsIn H7 D (zs ++ fr) ∧ fr.map (fun z => z.2.1) = us.take i ∧ ∀ z, z ∈ fr → z.2.2 ≤ 3)
      ⟨bt6, dd6, upd_same, none, [], rfl, by rw [List.append_nil]; exact ri6, by simp, fun z hz => (nomatch hz)⟩ (fun i σ H3 _ h => .inl (.inl h.2.2.1)) ?_ ?_
    · rintro i y σ H7 hi ⟨bt7, dd7, eu, y0, fr, rfl, ri7, em7, h7⟩
      rw [List.getElem?_map] at hi
      obtain ⟨x, hx, rfl⟩ := Option.map_eq_some_iff.mp hi
      have lt : i < us.length := (List.getElem?_eq_some_iff.mp hx).1
      refine ⟨_, rfl, .inl ⟨rfl, _, .inl (.inl ri7.1)⟩, _, rfl, _, rfl, a, n + 11 + i, 5, rfl, dd7, by omega, by decide, by decide, fun r8 H8 bt8 dd8 r80 r81 => ⟨r8, 2, rfl, rfl, 0, r8 - 2, rfl, 1, _, rfl, rfl, (by show 2 ≤ sizeLine; decide), fun q nq => ?_⟩⟩
      have ri8 := ri7.but bt8 dd7 nDa
      obtain ⟨k, hk, ek⟩ : ∃ k : Nat, k ≤ 3 ∧ (1 + if r8 - 2 > 0 then r8 - 2 else 0 : Int) = k := by
        refine ⟨(1 + if r8 - 2 > 0 then r8 - 2 else 0 : Int).toNat, ?_, ?_⟩ <;> split <;> omega
      dsimp only
      rw [ek]
      have smq := same_new (o := rowO (x, k)) nq
      have eq8 := smq _ _ ri8.1
      have lfr : fr.length ≤ 3 := by
        have := congrArg List.length em7
        simp only [List.length_map, List.length_take] at this
        omega
      refine ⟨D, _, .ref q, rfl, rfl, eq8, by rw [List.length_map, List.length_append]; exact small1000 (by omega), (bt7.trans (bt8.trans (But.of smq))).put nDH, ((dd8.up smq).put nDa).le (by omega), ?_, some (.str x), fr ++ [(q, (x, k))], rfl, ?_, ?_, fun z hz => ?_⟩
      · rw [upd_ne nus]
        exact smq _ _ (bt8 _ _ eu nua)
      · rw [← List.append_assoc]
        exact ri8.snoc (r := (x, k)) nq
      · rw [List.map_append, em7, List.take_add_one, hx]
        rfl
      · rcases List.mem_append.mp hz with hz | hz
        · exact h7 z hz
        · rw [List.mem_singleton.mp hz]
          exact hk
    · rintro σ H7 ⟨bt7, dd7, eu, y0, fr, rfl, ri7, em7, h7⟩
      rw [List.length_map, List.take_length] at em7
      have lfr : fr.length ≤ 3 := by
        have := congrArg List.length em7
        simp only [List.length_map] at this
        omega
      -- sorted
      have eI : ∀ l : List Rw, (l.map rowI).map Prod.fst = l.map fun z => V.ref z.1 := fun l => by rw [List.map_map]; rfl
      have eS : ∀ l : List Rw, (l.map rowI).map Prod.snd = l.map fun z => PyData.tuple [.str z.2.1, .int (z.2.2 : Int)] := fun l => by rw [List.map_map]; rfl
      refine ⟨_, rfl, D, (zs ++ fr).map rowI, rfl, by rw [eI]; exact .inl (.inl ri7.1), fun z hz => ?_, ?_, ?_, by rw [List.length_map, List.length_append]; exact Nat.le_of_lt (small1000 (by omega)), fun z hz => ?_, fun p np => ?_⟩
      · obtain ⟨z, hz2, rfl⟩ := List.mem_map.mp hz
        exact .tup (.inl (.inl (ri7.2 z hz2))) (.cons (.str _) (.cons (.int _) .nil))
      · rw [eS]
        exact PySem.W.AllAlike.of fun b b' => rfl
      · rw [eS]
        exact PySem.W.Sortable.tuples fun b => ⟨_, _, rfl⟩
      · obtain ⟨z, hz2, rfl⟩ := List.mem_map.mp hz
        show PyData.depth (.tuple [.str z.2.1, .int (z.2.2 : Int)]) ≤ 60
        simp [PyData.depth, PyData.depthAll]
      · obtain ⟨ws2, pw2, ew2⟩ := perm_back (List.mergeSort_perm ((zs ++ fr).map rowI) (PySem.W.dataLe false Prod.snd)).symm (zs ++ fr) rfl
        rw [ew2, eI]
        have npa2 := dd7.ne np
        have smp := same_new (o := .lst (ws2.map fun z => V.ref z.1)) np
        refine q p ws2 _ (bt7.trans (But.of smp)) ((dd7.up smp).le ?_) (But.free bt7 npa2 np) npa2 ⟨upd_same, fun z hz => smp _ _ (ri7.2 z (pw2.mem_iff.mp hz))⟩ ?_
        · rw [List.length_map]
          omega
        · refine Good.perm ?_ (pw2.map Prod.snd).symm
          rw [List.map_append, em]
          refine ⟨fun r hr => ?_, ?_, ?_, ?_, ?_, fun r hr => ?_, ?_⟩
          · rcases List.mem_append.mp hr with h | h
            · obtain ⟨x, hx, rfl⟩ := List.mem_map.mp h
              exact ⟨(hc x hx).1, Nat.zero_le _⟩
            · obtain ⟨z, hz, rfl⟩ := List.mem_map.mp h
              refine ⟨(funcs_ok.2 _ (hw _ ?_)).1, h7 z hz⟩
              rw [← em7]
              exact List.mem_map.mpr ⟨z, hz, rfl⟩
          · have inF : ∀ r, r ∈ fr.map Prod.snd → r.1 ∈ funcs := fun r hr => by
              obtain ⟨z, hz, rfl⟩ := List.mem_map.mp hr
              refine hw _ ?_
              rw [← em7]
              exact List.mem_map.mpr ⟨z, hz, rfl⟩
            have inC : ∀ r, r ∈ (cs.map fun x => ((x, 0) : NK)) → r.1 ∉ funcs ∧ r.2 = 0 := fun r hr => by
              obtain ⟨x, hx, rfl⟩ := List.mem_map.mp hr
              exact ⟨(hc x hx).2.1, rfl⟩
            intro r hr t ht e
            rcases List.mem_append.mp hr with h1 | h1
            · rcases List.mem_append.mp ht with h2 | h2
              · rw [(inC r h1).2, (inC t h2).2]
              · have z := (inC r h1).1
                rw [e] at z
                exact absurd (inF t h2) z
            · rcases List.mem_append.mp ht with h2 | h2
              · have z := (inC t h2).1
                rw [← e] at z
                exact absurd (inF r h1) z
              · obtain ⟨x, hx, rfl⟩ := List.mem_map.mp h1
                obtain ⟨y, hy, rfl⟩ := List.mem_map.mp h2
                rw [nodup_inj (f := fun z : Rw => z.2.1) (by rw [em7]; exact ndw) hx hy e]
          · cases cs with
            | nil =>
              simp at lc
            | cons x cs => exact ⟨(x, 0), List.mem_append_left _ (List.mem_map.mpr ⟨x, List.mem_cons_self, rfl⟩), rfl⟩
          · rw [List.length_append, List.length_map, List.length_map]
            omega
          · rw [List.map_append, List.map_map, show (Prod.fst ∘ fun x => ((x, 0) : NK)) = id from rfl, List.map_id, List.map_map, show (Prod.fst ∘ Prod.snd : Rw → Str) = (fun z => z.2.1) from rfl, em7, List.nodup_append]
            exact ⟨cnd, ndw, fun x hx y hy e => (hc x hx).2.1 (e ▸ hw y hy)⟩
          · rcases List.mem_append.mp hr with h | h
            · obtain ⟨x, hx, rfl⟩ := List.mem_map.mp h
              exact (hc x hx).2.2
            · obtain ⟨z, hz, rfl⟩ := List.mem_map.mp h
              refine (funcs_ok.2 _ (hw _ ?_)).2
              rw [← em7]
              exact List.mem_map.mpr ⟨z, hz, rfl⟩
          · match cs, lc, cnd with
            | x :: y :: cs, _, cnd =>
              rw [List.nodup_cons] at cnd
              exact ⟨x, y, fun e => cnd.1 (e ▸ List.mem_cons_self), List.mem_append_left _ (by simp), List.mem_append_left _ (by simp)⟩
            | [_], lc, _ => simp at lc
            | [], lc, _ => simp at lc
end
end K12
/-! A term of the turn, drawn. -/
namespace K12
open PySem PySem.Spec PyProof.Rows L2 Kx
theorem RowsIn.add {H : Hp} {f : Addr} {zs : List Rw} {z : Rw} (h : RowsIn H f zs) (n : H z.1 = some (rowO z.2)) : RowsIn (upd H f (.lst ((zs.map fun z => V.ref z.1) ++ [V.ref z.1]))) f (zs ++ [z]) := by
  refine ⟨by rw [upd_same, List.map_append]; rfl, fun y hy => ?_⟩
  have e : H y.1 = some (rowO y.2) := by
    rcases List.mem_append.mp hy with hy | hy
    · exact h.2 y hy
    · rw [List.mem_singleton.mp hy]
      exact n
  rw [upd_ne (ne_of e h.1 (fun e => nomatch e))]
  exact e
theorem RowsIn.off {H : Hp} {f D : Addr} {zs : List Rw} {xs ys : List V} (h : RowsIn H f zs) (e : H D = some (.lst xs)) (n : D ≠ f) : RowsIn (upd H D (.lst ys)) f zs := by
  refine ⟨by rw [upd_ne n.symm]; exact h.1, fun z hz => ?_⟩
  rw [upd_ne (ne_of (h.2 z hz) e (fun e => nomatch e))]
  exact h.2 z hz
def cost : Nat → Nat
  | 0 => 0
  | n + 1 => 2 + 3 * cost n
/-- a term with names of rs, n levels at most -/
structure Tm (rs : List NK) (n : Nat) (d : PyData) : Prop where
  fm : formedD d = true
  rw : ∀ r, r ∈ rowsD d → r ∈ rs
  dp : d.depth ≤ n
section
variable {K : PySem.W.Frag}
/-- the rows without places, a new list -/
theorem cells_rd {y0 y2 y3 y4 y5 y6 y7 : Option V} {H : Hp} {b : Addr} {zs : List Rw} {Q : VK} (ri : RowsIn H b zs) (gd : Good (zs.map Prod.snd))
    (q : ∀ (D : Addr) (ws : List Rw) (H3 : Hp), Same H H3 → H D = none → RowsIn H3 D ws → (∀ z, z ∈ ws → z ∈ zs ∧ z.2.2 = 0) → ws ≠ [] → ws.length ≤ 20 → Q (.ref D) H3) :
    tLc (iList K (tVar 1)) (gName 6) (tTest (tOp rEq (tOp (rIxT K) (tVar 6) (tC (.int 1))) (tC (.int 0)))) (tVar 6) [6] [y0, some (.ref b), y2, y3, y4, y5, y6, y7] H Q := by
  have lzs : zs.length ≤ 20 := by
    have := gd.few
    rwa [List.length_map] at this
  refine ⟨_, rfl, b, rfl, ⟨_, .inl (.inl ri.1)⟩, fun D nD => ?_⟩
  have smD := same_new (o := .lst []) nD
  refine lc_list (K := K) (a := b) (xs := zs.map fun z => V.ref z.1) (fun i H3 => Same H H3 ∧ ∃ ws : List Rw, RowsIn H3 D ws ∧ (∀ z, z ∈ ws → z ∈ zs ∧ z.2.2 = 0) ∧ (∀ (j : Nat) z, j < i → zs[j]? = some z → z.2.2 = 0 → z ∈ ws) ∧ ws.length ≤ i)
    ⟨smD, [], ⟨upd_same, fun z hz => (nomatch hz)⟩, fun z hz => (nomatch hz), fun j z h => absurd h (Nat.not_lt_zero _), Nat.le_refl _⟩ (fun i H3 _ h => .inl (.inl (h.1 _ _ ri.1))) ?_ ?_
  · rintro i y H3 hi ⟨sm, ws, rw3, h1, h2, l3⟩
    rw [List.getElem?_map] at hi
    obtain ⟨z, hz, rfl⟩ := Option.map_eq_some_iff.mp hi
    have lt : i < zs.length := (List.getElem?_eq_some_iff.mp hz).1
    have ez := sm _ _ (ri.2 z (List.mem_of_getElem? hz))
    refine ⟨rfl, _, rfl, z.1, _, 1, .int (z.2.2 : Int), rfl, rfl, SqT.of ez, atI_nat (j := 1) rfl, rfl, _, rfl, ite2 (fun e0 => ?_) (fun e0 => ?_)⟩
    · have z0 : z.2.2 = 0 := by
        have := of_decide_eq_true (p := V.int (z.2.2 : Int) = V.int 0) e0
        injection this with this
        exact Int.ofNat.inj this
      refine ⟨_, rfl, _, rw3.1, by rw [List.length_map]; exact small1000 (by omega), fun c o hc => ?_, ws ++ [z], rw3.add ez, fun y hy => ?_, fun j y hj hy h0 => ?_, by rw [List.length_append]; exact Nat.succ_le_succ l3⟩
      · rw [upd_ne (ne_of_none hc nD)]
        exact sm c o hc
      · rcases List.mem_append.mp hy with hy | hy
        · exact h1 y hy
        · rw [List.mem_singleton.mp hy]
          exact ⟨List.mem_of_getElem? hz, z0⟩
      · by_cases e : j = i
        · rw [e, hz] at hy
          cases hy
          exact List.mem_append_right _ (List.mem_singleton.mpr rfl)
        · exact List.mem_append_left _ (h2 j y (by omega) hy h0)
    · refine ⟨sm, ws, rw3, h1, fun j y hj hy h0 => ?_, by omega⟩
      by_cases e : j = i
      · rw [e, hz] at hy
        cases hy
        rw [h0] at e0
        exact absurd (decide_eq_true rfl) e0
      · exact h2 j y (by omega) hy h0
  rintro H3 ⟨sm, ws, rw3, h1, h2, l3⟩
  rw [List.length_map] at h2 l3
  refine q D ws H3 sm nD rw3 h1 (fun e => ?_) (by omega)
  obtain ⟨r, hr, r0⟩ := gd.cell
  obtain ⟨z, hz, rfl⟩ := List.mem_map.mp hr
  obtain ⟨j, hj⟩ := List.getElem?_of_mem hz
  have := h2 j z (List.getElem?_eq_some_iff.mp hj).1 hj r0
  rw [e] at this
  cases this
end
section
variable {P : Program} {w : World} {K : PySem.W.Frag} {mg : Str → Option Value} {base : Heap}
def spLt (K : PySem.W.Frag) (n : Nat) : Sp := fun vs H Q _ => ∃ (a b : Addr) (m : Nat) (zs : List Rw), vs = [.ref a, .ref b, .int (n : Int)] ∧ 0 < n ∧ Dice H a m ∧ m + cost n < cap ∧ RowsIn H b zs ∧ b ≠ a ∧ Good (zs.map Prod.snd) ∧
  ∀ (x : V) (d : PyData) H', But a H H' → Dice H' a (m + cost n) → Dx K H' x d → Tm (zs.map Prod.snd) n d → Q x H'
theorem ok_lt (T : Tx K mg) : ∀ n, FnOk P w K mg base CX0 (n + 3) T.a_law_term T.d_law_term ["dice", "names", "deep"] (spLt K n)
  | 0 => by
    refine T.f_law_term.ok sc__law_term (fun vs H Q E h => ?_) (fun cdv A outer s H vs Q E hr h => ?_)
    · obtain ⟨a, b, m, zs, rfl, _⟩ := h
      rfl
    · obtain ⟨a, b, m, zs, rfl, h0, _⟩ := h
      exact absurd h0 (Nat.lt_irrefl _)
  | n + 1 => by
    have nd := sc__law_term.nd
    have G0 := ok_lt T n
    have G1 := ok_roll (P := P) (w := w) (base := base) T
    have G2 := ok_pick (P := P) (w := w) (base := base) T
    refine T.f_law_term.ok sc__law_term (fun vs H Q E h => ?_) (fun cdv A outer s H vs Q E hr h => ?_)
    · obtain ⟨a, b, m, zs, rfl, _⟩ := h
      rfl
    · obtain ⟨a, b, m, zs, rfl, _, hd, hc, ri, nba, gd, q⟩ := h
      refine ⟨_, (C8.pss_cut (ps_set (i := 3) nd rfl (.inl rfl) (pe_ifExp (PW.pt (pw_and (pt_cmpR op_gt (pv 2) pe_int (nomark _)) (pw_and1 (pt_cmpR op_gt (pe_call G1 (hr.mono (by omega)) (by rfl) T.g_law_roll T.f_law_roll.kp T.n_law_roll .nil pass0 (pa_cons (pv 0) (pa_cons pe_int pa_nil))) pe_int (nomark _))))) (pv 1) (pe_lc (own := [("row", 6)]) (g := (gName 6)) (by rfl) nd (pi_list (pv 1)) (blkOk_by (own := [("row", 6)]) (N := N__law_term) (sc := defScope s__law_term) (by decide +kernel)) (fun _ _ _ _ _ => pg_name (i := 6) nd rfl (.inl rfl)) (fun _ _ _ _ _ => (pts_one (pt_cmpR op_eq (pe_ix (r := rIxT K) ix_tup (pv 6) pe_int (fun _ _ => rfl)) pe_int (nomark _)))) (fun _ _ _ _ _ => (pv 6)))))
      (pss_cons (ps_asg (pe_call G2 (hr.mono (by omega)) (by rfl) T.g_law_pick T.f_law_pick.kp T.n_law_pick .nil pass0 (pa_cons (pv 0) (pa_cons (pv 3) pa_nil))) (pg_tup rfl (pgs_cons (pg_name (i := 4) nd rfl (.inl rfl)) (pgs_cons (pg_name (i := 5) nd rfl (.inl rfl)) pgs_nil))))
      (pss_one (ps_ret (pe_op op_catA (pe_tup (pa_cons (pv 4) pa_nil)) (pe_callTy call_tuple_of (by rfl) T.b_tuple (by decide +kernel) (pa_cons (pe_lc (own := [("turn", 7)]) (g := (gName 7)) (tt := tYes) (by rfl) nd (pi_range1 (by rfl) T.b_range (pa_cons (pv 5) pa_nil)) (blkOk_by (own := [("turn", 7)]) (N := N__law_term) (sc := defScope s__law_term) (by decide +kernel)) (fun _ _ _ _ _ => pg_name (i := 7) nd rfl (.inl rfl)) (fun _ _ _ _ _ => pts_nil) (fun s1 H1 C1 cl1 fp1 => (pe_call G0 (hr.mono (by omega)) (by rfl) T.g_law_term T.f_law_term.kp T.n_law_term .nil pass0 (pa_cons (pv 0) (pa_cons (pv 1) (pa_cons (pe_op op_sub (pv 2) pe_int) pa_nil)))))) pa_nil))))))), ?_⟩
      have lzs : zs.length ≤ 20 := by
        have := gd.few
        rwa [List.length_map] at this
      refine ⟨fun σ' H' => But a H H' ∧ Dice H' a (m + 1) ∧ RowsIn H' b zs ∧ ∃ (s : Addr) (vs : List Rw), σ' = [some (.ref a), some (.ref b), some (.int ((n + 1 : Nat) : Int)), some (.ref s), none, none, none, none] ∧ RowsIn H' s vs ∧ s ≠ a ∧ vs ≠ [] ∧ vs.length ≤ 20 ∧ (∀ z, z ∈ vs → z ∈ zs) ∧ (n = 0 → ∀ z, z ∈ vs → z.2.2 = 0), ?_, ?_⟩
      · refine ⟨_, rfl, _, _, rfl, rfl, _, rfl, ite2 (fun e1 => ?_) (fun e1 => ?_)⟩
        · have n0 : n ≠ 0 := fun z => by
            have := of_decide_eq_true e1
            rw [z] at this
            exact absurd this (by decide)
          refine ⟨_, rfl, a, m, 3, rfl, hd, ?_, by decide, by decide, fun r H4 bt dd r0 r1 => ⟨_, _, rfl, rfl, _, rfl, ite2 (fun e2 => ?_) (fun e2 => ?_)⟩⟩
          · rw [cost] at hc
            omega
          · have ri4 := ri.but bt hd nba
            refine ⟨_, rfl, bt, dd, ri4, b, zs, rfl, ri4, nba, fun z => ?_, lzs, fun z hz => hz, fun z => absurd z n0⟩
            rw [z] at lzs
            obtain ⟨r, hr, _⟩ := gd.cell
            rw [z] at hr
            cases hr
          · have ri4 := ri.but bt hd nba
            exact cells_rd ri4 gd fun D ws H5 s5 nD rw5 sub ne few => ⟨bt.trans (But.of s5), dd.up s5, ri4.up s5, D, ws, rfl, rw5, dd.ne nD, ne, few, fun z hz => (sub z hz).1, fun _ z hz => (sub z hz).2⟩
        · exact iteF (cells_rd ri gd fun D ws H5 s5 nD rw5 sub ne few => ⟨But.of s5, (hd.up s5).le (Nat.le_succ m), ri.up s5, D, ws, rfl, rw5, hd.ne nD, ne, few, fun z hz => (sub z hz).1, fun _ z hz => (sub z hz).2⟩)
      rintro σ1 H5 ⟨bt5, dd5, ri5, s5, vs, rfl, rs5, ns5, vne, lvs, sub, leaf⟩
      have vp : 0 < vs.length := by
        cases vs with
        | nil => exact absurd rfl vne
        | cons _ _ => exact Nat.succ_pos _
      -- the pick
      refine ⟨_, rfl, _, rfl, a, s5, m + 1, _, rfl, dd5, ?_, .inl (.inl rs5.1), ns5, by rw [List.length_map]; exact vp, by rw [List.length_map]; omega, fun i v H6 bt6 dd6 hi => ?_⟩
      · rw [cost] at hc
        omega
      rw [List.getElem?_map] at hi
      obtain ⟨z, hz, rfl⟩ := Option.map_eq_some_iff.mp hi
      have zin := sub z (List.mem_of_getElem? hz)
      have leaf := fun e => leaf e z (List.mem_of_getElem? hz)
      have rs6 := rs5.but bt6 dd5 ns5
      have ri6 := ri5.but bt6 dd5 nba
      have ez := rs6.2 z (List.mem_of_getElem? hz)
      have gz := gd.nm z.2 (List.mem_map.mpr ⟨z, zin, rfl⟩)
      have zmem : z.2 ∈ zs.map Prod.snd := List.mem_map.mpr ⟨z, zin, rfl⟩
      have bt6 := bt5.trans bt6
      obtain ⟨za, nm, k⟩ := z
      dsimp only at gz leaf ez zmem
      refine ⟨za, _, rfl, SqT.of ez, rfl, _, _, rfl, _, _, rfl, rfl, ?_⟩
      -- the head
      refine ⟨_, rfl, (by show 1 ≤ sizeLine; decide), fun t nt => ?_⟩
      have smt := same_new (o := .tup [.str nm]) nt
      have nta := dd6.ne nt
      refine ⟨_, rfl, (k : Int), rfl, by omega, by omega, fun D2 nD2 => ?_⟩
      have smD2 := same_new (o := .lst []) nD2
      have nD2a := (dd6.up smt).ne nD2
      have btD := bt6.trans ((But.of smt).trans (But.of smD2))
      have nD2H := But.free (bt6.trans (But.of smt)) nD2a nD2
      have ek : ((k : Int)).toNat = k := Int.toNat_natCast k
      rw [ek]
      refine lc_range (fun i H7 => But a H H7 ∧ Dice H7 a (m + 2 + i * cost n) ∧ RowsIn H7 b zs ∧ H7 t = some (.tup [.str nm]) ∧ ∃ (ws : List V) (ds : List PyData), H7 D2 = some (.lst ws) ∧ DxAll K H7 ws ds ∧ ds.length = i ∧ formedAll ds = true ∧ (∀ r, r ∈ rowsAll ds → r ∈ zs.map Prod.snd) ∧ PyData.depthAll ds ≤ n)
        ⟨btD, (dd6.up (smt.trans smD2)).le (Nat.le_add_right _ _), ri6.up (smt.trans smD2), smD2 _ _ upd_same, [], [], upd_same, .nil, rfl, rfl, fun r h => (nomatch h), Nat.zero_le _⟩ ?_ ?_
      · rintro i H7 hi ⟨bt7, dd7, ri7, et7, ws7, ds7, eD7, dx7, l7, f7, r7, p7⟩
        have n0 : 0 < n := by
          cases n with
          | zero =>
            have := leaf rfl
            omega
          | succ n => exact Nat.succ_pos _
        refine ⟨rfl, (iteT (B := False) ?_ : if true = true then _ else False)⟩
        have c1 : cost (n + 1) = 2 + 3 * cost n := rfl
        have ic : i * cost n + cost n ≤ 3 * cost n := by
          have := Nat.mul_le_mul_right (cost n) (show i + 1 ≤ 3 by omega)
          rwa [Nat.add_mul, Nat.one_mul] at this
        refine ⟨_, rfl, _, rfl, _, rfl, _, _, rfl, rfl, a, b, m + 2 + i * cost n, zs, ?_, n0, dd7, by omega, ri7, nba, gd, fun x d H8 bt8 dd8 hx tm => ?_⟩
        · show [V.ref a, V.ref b, V.int (((n + 1 : Nat) : Int) - 1)] = _
          rw [show ((n + 1 : Nat) : Int) - 1 = (n : Int) by omega]
        · have ts := Tups.but bt8 dd7
          have eD8 := bt8 _ _ eD7 nD2a
          have tD : Tups H8 (upd H8 D2 (.lst (ws7 ++ [x]))) := Tups.lst eD8
          have lw := dx7.length
          refine ⟨ws7, eD8, small1000 (by omega), (bt7.trans bt8).put nD2H, (dd8.put nD2a).le (by rw [Nat.add_mul, Nat.one_mul]; omega), ?_, tD _ _ (ts _ _ et7), ws7 ++ [x], ds7 ++ [d], upd_same, DxAll.append (DxAll.ts (ts.trans tD) _ _ (pure_formedAll _ f7) dx7) (.cons (Dx.ts tD _ _ (pure_formed _ tm.fm) hx) .nil), by rw [List.length_append, l7]; rfl, by rw [formedAll_snoc, f7, tm.fm]; rfl, fun r hr => ?_, depthAll_snoc p7 tm.dp⟩
          · exact ((ri7.but bt8 dd7 nba).off eD8 (ne_of_none ri.1 nD2H).symm)
          · rw [rowsAll_append] at hr
            rcases List.mem_append.mp hr with h | h
            · exact r7 r h
            · simp only [rowsAll, List.append_nil] at h
              exact tm.rw r h
      · rintro H7 ⟨bt7, dd7, ri7, et7, ws7, ds7, eD7, dx7, l7, f7, r7, p7⟩
        have lw := dx7.length
        have c1 : cost (n + 1) = 2 + 3 * cost n := rfl
        have kc : k * cost n ≤ 3 * cost n := Nat.mul_le_mul_right (cost n) gz.2
        refine ⟨D2, ws7, rfl, .inl ⟨.inl (.inl eD7), fun u nu => ?_⟩⟩
        have smu := same_new (o := .tup ws7) nu
        have et8 := smu _ _ et7
        have dx8 := dx7.up smu
        have fm : formedD (.tuple (.str nm :: ds7)) = true := by
          simp [formedD, nameD, gz.1, f7, l7, gz.2]
        have tm : Tm (zs.map Prod.snd) (n + 1) (.tuple (.str nm :: ds7)) := by
          refine ⟨fm, fun r hr => ?_, ?_⟩
          · rw [rowsD, headD, l7] at hr
            rcases List.mem_cons.mp hr with h | h
            · rw [h]
              exact zmem
            · exact r7 r h
          · simp only [PyData.depth, PyData.depthAll]
            omega
        have bt8 := bt7.trans (But.of smu)
        have dd8 := (dd7.up smu).le (show m + 2 + k * cost n ≤ m + cost (n + 1) by omega)
        refine ⟨t, u, _, _, rfl, rfl, SqT.of et8, SqT.of upd_same, Nat.le_of_lt (small1000 (by rw [List.length_singleton]; omega)), fun z => (nomatch z), fun _ e => ?_, fun _ _ v nv => ?_⟩
        · subst e
          cases dx8
          exact q _ _ _ bt8 dd8 (.tup et8 (.cons (.str _) .nil)) tm
        · have smv := same_new (o := .tup ([V.str nm] ++ ws7)) nv
          exact q _ _ _ (bt8.trans (But.of smv)) (dd8.up smv) (.tup upd_same (.cons (.str _) (dx8.up smv))) tm
end
end K12
/-! t[:1:-1] of a tuple of two to four. -/
namespace Kx
open PySem PySem.Spec PyProof.Rows L2 HT
section
variable {prog : Program} {w : World} {A : Around} {E : Value → Shared → Prop} {s : Shared}
theorem back_adjust {n : Nat} (h : 2 ≤ n) : Builtin.Slice.sliceAdjust none (some 1) (-1) (n : Int) = ((n : Int) - 1, 1) := by
  have neg : (-1 : Int) < 0 := by decide
  unfold Builtin.Slice.sliceAdjust
  simp only [neg, if_true]
  refine Prod.ext ?_ ?_
  · rfl
  · have no : ¬ ((1 : Int) < 0) := by decide
    simp only [no, if_false]
    omega
theorem back_places {n : Nat} (h : 2 ≤ n) : Builtin.Slice.slicePlaces ((n : Int) - 1) 1 (-1) = n - 2 := by
  unfold Builtin.Slice.slicePlaces
  have no : ¬ ((-1 : Int) > 0) := by decide
  simp only [no, if_false]
  rw [show -(-1 : Int) = 1 from rfl, Int.ediv_one]
  split <;> omega
theorem back_pick : ∀ {xs : List Value}, 2 ≤ xs.length → xs.length ≤ 4 → ((List.range (xs.length - 2)).filterMap fun (m : Nat) => xs.toArray[((xs.length : Int) - 1 + (m : Int) * -1).toNat]?) = (xs.drop 2).reverse
  | [a, b], _, _ => rfl
  | [a, b, c], _, _ => rfl
  | [a, b, c, d], _, _ => rfl
  | [], h, _ => by simp at h
  | [_], h, _ => by simp at h
  | _ :: _ :: _ :: _ :: _ :: _, _, h => by simp at h
theorem back_applied {sl : Addr} {vl vu vs : Value} {n : Nat} {Q : Int × Int × Nat → Shared → Prop} (hn : 2 ≤ n) (hs : s.heap.IsSliceOf sl vl vu vs) (pl : IsPart vl none) (pu : IsPart vu (some 1)) (ps : IsPart vs (some (-1)))
    (h : Q ((n : Int) - 1, -1, n - 2) s) : wpAny (model prog w) A (Builtin.Slice.sliceApplied (.ref sl) (pure (n : Int))) Q E s := by
  obtain ⟨ob, h1, h2, h3⟩ := id hs
  unfold Builtin.Slice.sliceApplied Builtin.Slice.sliceFields
  refine wpAny_bind (wpAny_bind (wpAny_field h1 h3 (x := vl) rfl (wpAny_bind (wpAny_field h1 h3 (x := vu) rfl (wpAny_bind (wpAny_field h1 h3 (x := vs) rfl (wpAny_pure ?_)))))))
  refine wpAny_bind (slicePart_ ps ?_)
  show wpAny _ _ (if ((-1 : Int) == 0) = true then _ else _) _ _ s
  rw [if_neg (by decide)]
  refine wpAny_bind (slicePart_ pl (wpAny_bind (slicePart_ pu (wpAny_bind (wpAny_pure ?_)))))
  show wpAny _ _ (match Builtin.Slice.sliceAdjust none (some 1) (-1) (n : Int) with | (lo, hi) => pure (lo, (-1 : Int), Builtin.Slice.slicePlaces lo hi (-1))) _ _ s
  rw [back_adjust hn]
  show wpAny _ _ (pure ((n : Int) - 1, (-1 : Int), Builtin.Slice.slicePlaces ((n : Int) - 1) 1 (-1))) _ _ s
  rw [back_places hn]
  exact wpAny_pure h
theorem getItem_back {t sl : Addr} {xs : List Value} {vl vu vs : Value} {Q : Value → Shared → Prop} (ht : IsTup s.heap t xs.toArray) (h2 : 2 ≤ xs.length) (h4 : xs.length ≤ 4) (hs : s.heap.IsSliceOf sl vl vu vs) (pl : IsPart vl none) (pu : IsPart vu (some 1)) (ps : IsPart vs (some (-1)))
    (h : Q (.ref s.heap.objs.size) { s with heap := s.heap.push { cls := .type "tuple", data := .seq (xs.drop 2).reverse.toArray } }) : wpAny (model prog w) A (getItem (.ref t) (.ref sl)) Q E s := by
  have few : sizeOk (.seq (xs.drop 2).reverse.toArray) := by
    show (xs.drop 2).reverse.toArray.size ≤ sizeLine
    rw [List.size_toArray, List.length_reverse, List.length_drop]
    exact Nat.le_trans (show xs.length - 2 ≤ 4 by omega) (by decide)
  obtain ⟨ob, ho, hc, hd⟩ := id hs
  have isS : s.TypeIs (.ref sl) "slice" := ⟨ob, ho, hc⟩
  unfold getItem
  try with_reducible refine wpAny_holding ?_
  first | refine wpAny_bind (wpAny_pure ?_) | skip
  refine wpAny_bind (wpAny_sequenceKey ht.typeIs (by decide) ?_)
  refine wpAny_bind (wpAny_callSpecial?_slot (name := Str.ofString "__getitem__") ht.typeIs PyProof.Rows.slot_tuple_getitem
    (wpAny_call_entry PyProof.Rows.slot_tuple_getitem ht.typeIs entry_tuple_getitem ?_ (args_tuple_getitem _ _)))
  show wpAny _ _ (Builtin.Tuple.tupleItemsOf (.ref t) >>= _) _ _ s
  refine wpAny_bind (tupleItemsOf_ ht ?_)
  refine wpAny_bind (wpAny_typeOf isS ?_)
  rw [if_pos (by decide)]
  have sz : xs.toArray.size = xs.length := List.size_toArray ..
  refine wpAny_bind (back_applied (n := xs.toArray.size) (by rw [sz]; exact h2) hs pl pu ps ?_)
  rw [sz]
  have no : ¬ ((((xs.length : Int) - 1) == 0 && (-1 : Int) == 1 && (xs.length - 2) == xs.length) = true) := by simp
  show wpAny _ _ (if (((xs.length : Int) - 1) == 0 && (-1 : Int) == 1 && (xs.length - 2) == xs.length) = true then _ else _) _ _ s
  rw [if_neg no, back_pick h2 h4]
  first
    | exact wpAny_bind (m := Builtin.Tuple.tupleExact _) (wpAny_newObj_type (wpAny_pure ⟨_, rfl, wpAny_pure h⟩) few)
    | exact wpAny_bind (m := Builtin.Tuple.tupleExact _) (wpAny_newObj_type (wpAny_bind (wpAny_pure (wpAny_pure ⟨_, rfl, wpAny_pure h⟩))) few)
    | exact wpAny_bind (wpAny_bind (m := Builtin.Tuple.tupleExact _) (wpAny_newObj_type (wpAny_pure (wpAny_pure ⟨_, rfl, wpAny_pure h⟩)) few))
    | exact wpAny_bind (wpAny_bind (m := Builtin.Tuple.tupleExact _) (wpAny_newObj_type (wpAny_pure ⟨_, rfl, wpAny_pure h⟩) few))
end
/-- t[:1:-1], t of two to four: what stands behind the second, from the end -/
def tBack (K : PySem.W.Frag) (te : TE) : TE := fun σ H Q => te σ H fun x H1 => ∃ a xs, x = .ref a ∧ SqT K H1 a xs ∧ 2 ≤ xs.length ∧ xs.length ≤ 4 ∧ ∀ p, H1 p = none → Q (.ref p) (upd H1 p (.tup (xs.drop 2).reverse))
section
variable {X : Cx}
theorem pe_back {e : Expr} {te : TE} {k k2 : Nat} {p1 p2 p3 p4 pos : Pos} (he : PE X e te) : PE X (.Subscript e (.Slice none (some (.Constant (.int 1) k2 p4)) (some (.UnaryOp .USub (.Constant (.int 1) k p1) p2)) p3) pos) (tBack X.K te) := by
  refine ⟨fun pins s σ H Q I h => ?_⟩
  refine Subscript_ (thn (he.run pins s σ H _ I h) fun v s1 ⟨x, H1, I1, r1, q1⟩ => ?_)
  obtain ⟨a, xs, ex, hx, l2, l4, q⟩ := q1
  subst ex
  cases r1
  have hlo : PO X (some (.Constant (.int 1) k2 p4)) (tPart (tC (.int 1))) := po_some pe_int
  have hst : PO X (some (.UnaryOp .USub (.Constant (.int 1) k p1) p2)) (tPart (tUn (rU fun i => .int (-i)) (tC (.int 1)))) := po_some (pe_un un_neg pe_int)
  refine wpAny_Slice (thn (po_none.run pins s1 σ H1 (fun o G => o = none ∧ G = H1) I1 ⟨rfl, rfl⟩) fun vl s2 ⟨l, H2, I2, pl, el, e2⟩ => ?_)
  subst el e2
  refine thn (hlo.run pins s2 σ H2 (fun o G => o = some 1 ∧ G = H2) I2 ⟨1, rfl, rfl, rfl⟩) fun vu s3 ⟨u, H3, I3, pu, eu, e3⟩ => ?_
  subst eu e3
  refine thn (hst.run pins s3 σ H3 (fun o G => o = some (-1) ∧ G = H3) I3 ⟨1, rfl, -1, rfl, rfl, rfl⟩) fun vs s4 ⟨o, H4, I4, ps, eo, e4⟩ => ?_
  subst eo e4
  have I5 : Inv X pins σ H4 { s4 with heap := s4.heap.push { cls := .type "slice", data := .fields #[vl, vu, vs] } } := I4.kept (t' := s4.toks) fun b ob q => Heap.get?_push_of_some _ q
  obtain ⟨its, r, ht, hz⟩ := I5.tuple hx
  have hlen := r.length
  show wpAny (model X.prog X.w) X.A (subscriptTail e (.Slice none (some (.Constant (.int 1) k2 p4)) (some (.UnaryOp .USub (.Constant (.int 1) k p1) p2)) p3) (.ref a) (.ref s4.heap.objs.size)) (EP X pins σ Q) X.xe { s4 with heap := s4.heap.push { cls := .type "slice", data := .fields #[vl, vu, vs] } }
  refine tail_any (ops := [.ref a, .ref s4.heap.objs.size]) ht.typeIs (PyProof.Rows.slot_tuple_getitem.lookup) ?_ (by with_unfolding_all rfl)
  refine getItem_back ht (by omega) (by omega) (Heap.IsSliceOf.new _ vl vu vs) pl pu ps ?_
  refine ⟨.ref _, _, I5.laid (t' := s4.toks) (o := .tup (xs.drop 2).reverse) (fun b ob q => Heap.get?_push_of_some _ q) (Nat.le_refl _) ?_, rfl, q _ (I5.hok.fresh (Nat.le_refl _))⟩
  exact ⟨by rw [List.length_reverse, List.length_drop]; omega, _, (r.drop 2).reverse, IsTup.new _ _⟩
end
end Kx
/-! Texts of terms. -/
namespace K12
open PySem PySem.Spec PyProof.Rows L2 Kx
/-- a text of signs -/
def tS (l : List Nat) : Str := ⟨l.toArray⟩
theorem tS_list (x : Str) : tS x.cps.toList = x := by
  cases x
  rfl
theorem tS_app (l m : List Nat) : tS l ++ tS m = tS (l ++ m) := by
  show Str.append _ _ = _
  unfold Str.append tS
  simp
theorem str_app (x y : Str) : (x ++ y).cps.toList = x.cps.toList ++ y.cps.toList := by
  show (Str.append x y).cps.toList = _
  unfold Str.append
  simp
theorem tS_len (l : List Nat) : (tS l).length = l.length := by
  show l.toArray.size = _
  simp
def catS (ws : List Str) : List Nat := ws.flatMap fun w => w.cps.toList
theorem catS_snoc (ws : List Str) (x : Str) : catS (ws ++ [x]) = catS ws ++ x.cps.toList := by
  simp [catS, List.flatMap_append]
theorem glue_fold (g : Array Nat) : ∀ (ps : List Str) (a : Array Nat), (ps.foldl (fun acc p => acc ++ g ++ p.cps) a).toList = a.toList ++ ps.flatMap fun p => g.toList ++ p.cps.toList
  | [], a => by simp
  | p :: ps, a => by
    rw [List.foldl_cons, glue_fold g ps, List.flatMap_cons]
    simp
theorem join_none (ws : List Str) : Txt.join "" ws = tS (catS ws) := by
  have e : (Txt.join "" ws).cps.toList = catS ws := by
    cases ws with
    | nil => rfl
    | cons x ws =>
      show (((x :: ws).drop 1).foldl (fun acc p => acc ++ (("" : Str)).cps ++ p.cps) x.cps).toList = _
      rw [glue_fold]
      rfl
  rw [← tS_list (Txt.join "" ws), e]
theorem join_comma : ∀ (w : Str) (ws : List Str), Txt.join "," (w :: ws) = tS (w.cps.toList ++ ws.flatMap fun p => 44 :: p.cps.toList)
  | w, ws => by
    have e : (Txt.join "," (w :: ws)).cps.toList = w.cps.toList ++ ws.flatMap fun p => 44 :: p.cps.toList := by
      show (((w :: ws).drop 1).foldl (fun acc p => acc ++ (("," : Str)).cps ++ p.cps) w.cps).toList = _
      rw [glue_fold]
      rfl
    rw [← tS_list (Txt.join "," (w :: ws)), e]
def nmC : PyData → List Nat
  | .str x => x.cps.toList
  | _ => []
mutual
/-- the text of a formed datum -/
def tx : PyData → List Nat
  | .tuple (d :: ds) => nmC d ++ txA ds
  | _ => []
def txA : List PyData → List Nat
  | [] => []
  | e :: es => 40 :: (tx e ++ (txM es ++ [41]))
def txM : List PyData → List Nat
  | [] => []
  | e :: es => 44 :: (tx e ++ txM es)
end
/-- what an item that waits will give -/
def rx : PyData → List Nat
  | .str x => x.cps.toList
  | d => tx d
/-- the items that wait, the last first -/
def rxs (st : List PyData) : List Nat := st.reverse.flatMap rx
theorem rxs_snoc (st : List PyData) (e : PyData) : rxs (st ++ [e]) = rx e ++ rxs st := by
  simp [rxs]
mutual
/-- the steps that an item takes -/
def wt : PyData → Nat
  | .tuple ds => wtA ds + 2
  | _ => 1
def wtA : List PyData → Nat
  | [] => 0
  | d :: ds => wt d + 1 + wtA ds
end
theorem wtA_app : ∀ l m : List PyData, wtA (l ++ m) = wtA l + wtA m
  | [], m => by simp [wtA]
  | d :: l, m => by
    rw [List.cons_append, wtA, wtA, wtA_app l m]
    omega
def wts (st : List PyData) : Nat := (st.map wt).sum
theorem wts_snoc (st : List PyData) (e : PyData) : wts (st ++ [e]) = wts st + wt e := by
  simp [wts]
theorem wt_pos (d : PyData) : 0 < wt d := by
  cases d <;> simp [wt]
/-- commas between, from the end -/
def commas : List PyData → List PyData
  | [] => []
  | d :: ds => commas ds ++ [d, .str ","]
theorem rxs_app (a b : List PyData) : rxs (a ++ b) = rxs b ++ rxs a := by
  simp [rxs]
theorem rxs_commas : ∀ (st ds : List PyData), formedAll ds = true → rxs (st ++ commas ds) = txM ds ++ rxs st
  | st, [], _ => by simp [commas, txM]
  | st, d :: ds, h => by
    rw [formedAll, Bool.and_eq_true] at h
    have ih := rxs_commas st ds h.2
    have e1 : st ++ commas (d :: ds) = (st ++ commas ds) ++ [d] ++ [.str ","] := by simp [commas]
    have e2 : rx d = tx d := by
      cases d with
      | str x => cases h.1
      | _ => rfl
    rw [e1, rxs_snoc, rxs_snoc, ih, txM, e2]
    show [44] ++ _ = _
    simp
theorem wts_commas : ∀ (ds : List PyData), wts (commas ds) = wtA ds
  | [] => rfl
  | d :: ds => by
    have ih := wts_commas ds
    have e : commas (d :: ds) = commas ds ++ [d] ++ [.str ","] := by simp [commas]
    rw [e, wts_snoc, wts_snoc, ih, wtA]
    simp only [wt]
    omega
end K12
/-! written. -/
namespace K12
open PySem PySem.Spec PyProof.Rows L2 Kx
theorem wts_len : ∀ st : List PyData, st.length ≤ wts st
  | [] => Nat.le_refl _
  | e :: st => by
    have := wts_len st
    have := wt_pos e
    simp only [wts, List.map_cons, List.sum_cons, List.length_cons] at *
    omega
theorem commas_len : ∀ ds : List PyData, (commas ds).length = 2 * ds.length
  | [] => rfl
  | d :: ds => by
    have := commas_len ds
    simp only [commas, List.length_append, List.length_cons, List.length_nil]
    omega
theorem wts_app (a b : List PyData) : wts (a ++ b) = wts a + wts b := by simp [wts]
theorem commas_ok : ∀ {ds : List PyData}, formedAll ds = true → ∀ e, e ∈ commas ds → formedD e = true ∨ ∃ y, e = .str y
  | [], _, e, h => nomatch h
  | d :: ds, hf, e, h => by
    rw [formedAll, Bool.and_eq_true] at hf
    rcases List.mem_append.mp h with h | h
    · exact commas_ok hf.2 e h
    · rcases List.mem_cons.mp h with rfl | h
      · exact .inl hf.1
      · rw [List.mem_singleton.mp h]
        exact .inr ⟨_, rfl⟩
theorem drop_at {α : Type} {l : List α} {j : Nat} {y : α} (h : l[j]? = some y) : l.drop j = y :: l.drop (j + 1) := by
  have lt := (List.getElem?_eq_some_iff.mp h).1
  rw [List.getElem?_eq_getElem lt] at h
  rw [List.drop_eq_getElem_cons lt, Option.some.inj h]
theorem rev_at {α : Type} {l : List α} {i : Nat} {y : α} (h : l.reverse[i]? = some y) : i < l.length ∧ l[l.length - 1 - i]? = some y := by
  have lt := (List.getElem?_eq_some_iff.mp h).1
  rw [List.length_reverse] at lt
  rw [List.getElem?_reverse lt] at h
  exact ⟨lt, h⟩
def okI (e : PyData) : Prop := formedD e = true ∨ ∃ y, e = .str y
section
variable {P : Program} {w : World} {K : PySem.W.Frag} {mg : Str → Option Value} {base : Heap}
def spWr (K : PySem.W.Frag) : Sp := fun vs H Q _ => ∃ (x : V) (d : PyData), vs = [x] ∧ Dx K H x d ∧ formedD d = true ∧ wt d ≤ 100000 ∧ (tx d).length ≤ 1000000 ∧ ∀ H', Same H H' → Q (.str (tS (tx d))) H'
theorem ok_wr (T : Tx K mg) : FnOk P w K mg base CX0 1 T.awritten T.dwritten ["term"] (spWr K) := by
  have nd := sc_written.nd
  refine T.fwritten.ok sc_written (fun vs H Q E h => ?_) (fun cdv A outer s H vs Q E hr h => ?_)
  · obtain ⟨x, d, rfl, _⟩ := h
    rfl
  · obtain ⟨x, d, rfl, hx, hf, hw, hl, q⟩ := h
    refine ⟨_, (pss_cons (ps_set (i := 1) nd rfl (.inl rfl) (pe_lst pa_nil))
      (pss_cons (ps_set (i := 2) nd rfl (.inl rfl) (pe_lst (pa_cons (pv 0) pa_nil)))
      (pss_cons (ps_while PassesOwn.never (pt_truth (pv 2) (by intro _; rfl)) (pss_cons (ps_set (i := 3) nd rfl (.inl rfl) (pe_bm0 PySem.F.plainAttrs_list PySem.F.slot_list_pop PySem.F.type_list_pop mt_pop (pv 2)))
      (pss_one (ps_if (pt_val (pe_callB call_isi (by rfl) T.b_isinstance (by decide +kernel) (pa_cons (pv 3) (pa_cons (pe_bltn (v := .ty "str") (by rfl) T.b_str (by decide +kernel) rfl) pa_nil)))) (pss_one (ps_expr (pe_bm PySem.F.plainAttrs_list PySem.F.slot_list_append PySem.F.type_list_append mt_append (pv 1) (pa_cons (pv 3) pa_nil)))) (pss_one (ps_if (pt_cmpR op_eq (pe_callB call_len_seq (by rfl) T.b_len (by decide +kernel) (pa_cons (pv 3) pa_nil)) pe_int (nomark _)) (pss_one (ps_expr (pe_bm PySem.F.plainAttrs_list PySem.F.slot_list_append PySem.F.type_list_append mt_append (pv 1) (pa_cons (pe_ix ix_tup (pv 3) pe_int (fun _ _ => rfl)) pa_nil)))) (pss_cons (ps_expr (pe_bm PySem.F.plainAttrs_list PySem.F.slot_list_append PySem.F.type_list_append mt_append (pv 1) (pa_cons (pe_op op_add_str (pe_ix ix_tup (pv 3) pe_int (fun _ _ => rfl)) pe_str) pa_nil)))
      (pss_cons (ps_expr (pe_bm PySem.F.plainAttrs_list PySem.F.slot_list_append PySem.F.type_list_append mt_append (pv 2) (pa_cons pe_str pa_nil)))
      (pss_cons (ps_for PassesOwn.never rfl (pi_tup (pe_back (pv 3))) (pg_name (i := 4) nd rfl (.inl rfl)) (pss_cons (ps_expr (pe_bm PySem.F.plainAttrs_list PySem.F.slot_list_append PySem.F.type_list_append mt_append (pv 2) (pa_cons (pv 4) pa_nil)))
      (pss_one (ps_expr (pe_bm PySem.F.plainAttrs_list PySem.F.slot_list_append PySem.F.type_list_append mt_append (pv 2) (pa_cons pe_str pa_nil))))))
      (pss_one (ps_expr (pe_bm PySem.F.plainAttrs_list PySem.F.slot_list_append PySem.F.type_list_append mt_append (pv 2) (pa_cons (pe_ix ix_tup (pv 3) pe_int (fun _ _ => rfl)) pa_nil)))))))))))))
      (pss_one (ps_ret (pe_bm PySem.F.plainAttrs_str PySem.F.slot_str_join PySem.F.type_str_join mt_join pe_str (pa_cons (pv 1) pa_nil))))))), ?_⟩
    refine ⟨Nat.zero_le _, fun wl nwl => ?_⟩
    have s1 := same_put (o := .lst []) nwl
    refine ⟨_, rfl, (by show 1 ≤ sizeLine; decide), fun pl npl => ?_⟩
    have npl0 : H pl = none := by
      cases e : H pl with
      | none => rfl
      | some o =>
        rw [s1 _ _ e] at npl
        cases npl
    have nwp : wl ≠ pl := ne_of_none upd_same npl
    have big : ∀ {n : Nat}, n ≤ 200000 → n < sizeLine := fun h => Nat.lt_of_le_of_lt h (by decide)
    refine ⟨fun m σ H2 => (∃ y3 y4, σ = [some x, some (.ref wl), some (.ref pl), y3, y4]) ∧ ∃ (us : List V) (st : List PyData) (ws : List Str), m = wts st ∧ H2 pl = some (.lst us) ∧ H2 wl = some (.lst (ws.map V.str)) ∧ Same H H2 ∧ DxAll K H us st ∧ (∀ e, e ∈ st → okI e) ∧ ws.length + wts st ≤ wt d ∧ catS ws ++ rxs st = tx d,
      ⟨wts [d], ⟨none, none, rfl⟩, [x], [d], [], rfl, upd_same, ?_, s1.trans (same_put npl), .cons hx .nil, fun e he => ?_, ?_, ?_⟩, ?_⟩
    · rw [upd_ne nwp, upd_same]
      rfl
    · rw [List.mem_singleton.mp he]
      exact .inl hf
    · show 0 + wts [d] ≤ wt d
      simp [wts]
    · cases d with
      | str y => cases hf
      | _ => simp [catS, rxs, rx]
    rintro m σ H2 ⟨⟨y3, y4, rfl⟩, us, st, ws, rfl, ep, ew, sm, dx, ok, bd, tot⟩
    refine ⟨_, rfl, _, .inl ⟨us, .inl (.inl ep), rfl⟩, ?_⟩
    rcases snoc_or st with rfl | ⟨st, e, rfl⟩
    · cases dx
      refine iteF ⟨rfl, _, rfl, "", wl, ws, rfl, rfl, .inl (.inl (.inl ew)), ?_, ?_⟩
      · have e1 : (ws.map (·.length)).sum = (catS ws).length := by
          clear ew bd tot
          induction ws with
          | nil => rfl
          | cons a ws ih =>
            rw [List.map_cons, List.sum_cons, ih]
            show _ = (a.cps.toList ++ catS ws).length
            rw [List.length_append, Array.length_toList]
            rfl
        have e2 : catS ws = tx d := by
          rw [← tot]
          simp [rxs]
        rw [e1, e2]
        show _ + ws.length * 0 ≤ _
        omega
      · rw [join_none]
        have e2 : catS ws = tx d := by
          rw [← tot]
          simp [rxs]
        rw [e2]
        exact q H2 sm
    obtain ⟨us, v, rfl, dx', hv⟩ := snocDx dx
    have ne : (!(us ++ [v]).isEmpty) = true := by cases us <;> rfl
    rw [ne]
    rw [wts_snoc] at bd
    rw [rxs_snoc] at tot
    have oke := ok e (by simp)
    have ok' : ∀ e, e ∈ st → okI e := fun a ha => ok a (by simp [ha])
    have wpos := wt_pos e
    have lus := dx'.length
    have lst' : st.length ≤ wts st := wts_len st
    refine iteT ⟨fun σ' H' => ∃ m', m' < wts (st ++ [e]) ∧ _, fun _ _ h => h, ?_⟩
    refine ⟨_, rfl, .inl ⟨rfl, _, .inl (.inl ep)⟩, pl, _, v, rfl, rfl, ep, by simp, ?_⟩
    rw [List.dropLast_concat]
    have sm3 : Same H (upd H2 pl (.lst us)) := fun c o hc => by
      rw [upd_ne (ne_of_none hc npl0)]
      exact sm c o hc
    have ew3 : (upd H2 pl (.lst us)) wl = some (.lst (ws.map V.str)) := by
      rw [upd_ne nwp]
      exact ew
    have ep3 : (upd H2 pl (.lst us)) pl = some (.lst us) := upd_same
    generalize upd H2 pl (.lst us) = H3 at sm3 ew3 ep3 ⊢
    refine ⟨_, rfl, v, .ty "str", _, _, _, rfl, .ty _, (hv.up sm3).ty, kit_ty (kit_str e), _, rfl, ?_⟩
    have lws : ws.length ≤ 100000 := by omega
    have lst3 : us.length ≤ 100000 := by omega
    rcases oke with fe | ⟨y, rfl⟩
    · -- a term
      obtain ⟨nm, es, rfl, l3, hnm, hfa⟩ := formed_shape fe
      cases hv with
      | @tup b xs _ hb hs =>
      cases hs with
      | @cons v0 vs0 _ _ h0 hws =>
      cases h0
      have lw := hws.length
      have hb3 := sm3 _ _ hb
      have hn8 : nm.length ≤ 8 := by
        simp only [isNm, Bool.and_eq_true, decide_eq_true_eq] at hnm
        exact hnm.1.2
      refine iteF ⟨_, rfl, b, _, rfl, .inr (SqT.of hb3), rfl, _, rfl, ite2 (fun e1 => ?_) (fun e1 => ?_)⟩
      · -- of a name alone
        have n0 : es = [] := by
          have z := V.int.inj (of_decide_eq_true e1)
          refine List.eq_nil_of_length_eq_zero ?_
          rw [List.length_cons] at z
          omega
        subst n0
        refine ⟨_, rfl, .inl ⟨rfl, _, .inl (.inl ew3)⟩, _, rfl, b, _, 0, .str nm, rfl, rfl, SqT.of hb3, atI_nat (j := 0) rfl, wl, _, .str nm, rfl, rfl, ew3, big (by rw [List.length_map]; omega), ?_⟩
        refine ⟨wts st, by rw [wts_snoc]; omega, ⟨_, _, rfl⟩, us, st, ws ++ [nm], rfl, by rw [upd_ne nwp.symm]; exact ep3, by rw [upd_same, List.map_append]; rfl, fun c o hc => ?_, dx', ok', by rw [List.length_append]; simp only [List.length_singleton]; omega, ?_⟩
        · rw [upd_ne (ne_of_none hc nwl)]
          exact sm3 c o hc
        · rw [catS_snoc, ← tot]
          simp [rx, tx, nmC, txA]
      · -- with others
        cases hws with
        | nil => exact absurd rfl e1
        | @cons v1 vr e1d rest hv1 hrest =>
        have lr := hrest.length
        have hfa2 : formedD e1d = true ∧ formedAll rest = true := by simpa [formedAll] using hfa
        have lrest : rest.length ≤ 2 := by
          rw [List.length_cons] at l3
          omega
        have wte : wt (.tuple (.str nm :: e1d :: rest)) = wt e1d + 1 + wtA rest + 4 := by
          simp only [wt, wtA]
          omega
        rw [wte] at bd
        have wp1 := wt_pos e1d
        refine ⟨_, rfl, .inl ⟨rfl, _, .inl (.inl ew3)⟩, _, rfl, b, _, 0, .str nm, rfl, rfl, SqT.of hb3, atI_nat (j := 0) rfl, nm, "(", rfl, rfl, Nat.le_of_lt (small1000 (by show nm.length + 1 ≤ 1000; omega)), wl, _, _, rfl, rfl, ew3, big (by rw [List.length_map]; omega), ?_⟩
        have sm4 : Same H (upd H3 wl (.lst (ws.map V.str ++ [.str (nm ++ "(")]))) := fun c o hc => by
          rw [upd_ne (ne_of_none hc nwl)]
          exact sm3 c o hc
        have ep4 : (upd H3 wl (.lst (ws.map V.str ++ [.str (nm ++ "(")]))) pl = some (.lst us) := by
          rw [upd_ne nwp.symm]
          exact ep3
        have ew4 : (upd H3 wl (.lst (ws.map V.str ++ [.str (nm ++ "(")]))) wl = some (.lst ((ws ++ [nm ++ "("]).map V.str)) := by
          rw [upd_same, List.map_append]
          rfl
        generalize upd H3 wl (.lst (ws.map V.str ++ [.str (nm ++ "(")])) = H4 at sm4 ep4 ew4 ⊢
        refine ⟨_, rfl, .inl ⟨rfl, _, .inl (.inl ep4)⟩, pl, us, .str ")", rfl, rfl, ep4, big (by omega), ?_⟩
        have put : ∀ {G : Hp} {xs : List V}, Same H G → G wl = some (.lst ((ws ++ [nm ++ "("]).map V.str)) → Same H (upd G pl (.lst xs)) ∧ (upd G pl (.lst xs)) wl = some (.lst ((ws ++ [nm ++ "("]).map V.str)) := fun sG eG => ⟨fun c o hc => by
            rw [upd_ne (ne_of_none hc npl0)]
            exact sG c o hc, by
            rw [upd_ne nwp]
            exact eG⟩
        obtain ⟨sm5, ew5⟩ := put (xs := us ++ [.str ")"]) sm4 ew4
        have ep5 : (upd H4 pl (.lst (us ++ [.str ")"]))) pl = some (.lst (us ++ [.str ")"])) := upd_same
        generalize upd H4 pl (.lst (us ++ [.str ")"])) = H5 at sm5 ep5 ew5 ⊢
        have hb5 := sm5 _ _ hb
        have lvr : (V.str nm :: v1 :: vr).length ≤ 4 := by
          rw [List.length_cons, List.length_cons]
          omega
        refine ⟨_, rfl, b, _, rfl, SqT.of hb5, by rw [List.length_cons, List.length_cons]; omega, lvr, fun u nu => ⟨u, rfl, ⟨_, SqT.of upd_same⟩, ?_⟩⟩
        have su := same_put (o := .tup ((V.str nm :: v1 :: vr).drop 2).reverse) nu
        have npu : pl ≠ u := ne_of_none ep5 nu
        refine for_tup (K := K) (a := u) (xs := ((V.str nm :: v1 :: vr).drop 2).reverse) (fun i σ H6 => (∃ y5, σ = [some x, some (.ref wl), some (.ref pl), some (.ref b), y5]) ∧ Same H H6 ∧ H6 wl = some (.lst ((ws ++ [nm ++ "("]).map V.str)) ∧ H6 u = some (.tup ((V.str nm :: v1 :: vr).drop 2).reverse) ∧ ∃ (ys : List V), H6 pl = some (.lst (us ++ [.str ")"] ++ ys)) ∧ DxAll K H ys (commas (rest.drop (rest.length - i))))
          ⟨⟨_, rfl⟩, sm5.trans su, su _ _ ew5, upd_same, [], by rw [List.append_nil]; exact su _ _ ep5, by simp [commas]; exact .nil⟩ (fun i σ H6 _ h => SqT.of h.2.2.2.1) ?_ ?_
        · rintro i y σ H6 hi ⟨⟨y5, rfl⟩, s6, ew6, eu6, ys, ep6, dys⟩
          obtain ⟨lti, hi⟩ := rev_at hi
          have lvv : ((V.str nm :: v1 :: vr).drop 2).length = rest.length := lr
          rw [lvv] at lti hi
          have hi : vr[rest.length - 1 - i]? = some y := hi
          have lt : rest.length - 1 - i < rest.length := by omega
          have gd := List.getElem?_eq_getElem lt
          obtain ⟨v2, hv2, dv2⟩ := hrest.get gd
          rw [hi] at hv2
          cases hv2
          have ed : rest.drop (rest.length - (i + 1)) = rest[rest.length - 1 - i] :: rest.drop (rest.length - i) := by
            rw [show rest.length - (i + 1) = rest.length - 1 - i by omega, drop_at gd, show rest.length - 1 - i + 1 = rest.length - i by omega]
          have lys := dys.length
          rw [commas_len, List.length_drop] at lys
          have lbig : (us ++ [V.str ")"] ++ ys).length ≤ 100010 := by
            rw [List.length_append, List.length_append, List.length_singleton]
            omega
          refine ⟨_, rfl, .inl ⟨rfl, _, .inl (.inl ep6)⟩, _, rfl, pl, _, y, rfl, rfl, ep6, big (by omega), ?_⟩
          obtain ⟨s7, ew7⟩ := put (xs := us ++ [.str ")"] ++ ys ++ [y]) s6 ew6
          have eu7 : (upd H6 pl (.lst (us ++ [.str ")"] ++ ys ++ [y]))) u = some (.tup ((V.str nm :: v1 :: vr).drop 2).reverse) := by
            rw [upd_ne npu.symm]
            exact eu6
          refine ⟨_, rfl, .inl ⟨rfl, _, .inl (.inl upd_same)⟩, pl, _, .str ",", rfl, rfl, upd_same, big (by rw [List.length_append, List.length_singleton]; omega), ?_⟩
          obtain ⟨s8, ew8⟩ := put (xs := us ++ [.str ")"] ++ ys ++ [y] ++ [.str ","]) s7 ew7
          refine ⟨⟨_, rfl⟩, s8, ew8, ?_, ys ++ [y, .str ","], ?_, ?_⟩
          · rw [upd_ne npu.symm]
            exact eu7
          · rw [upd_same]
            simp
          · rw [ed, commas]
            exact DxAll.append dys (.cons dv2 (.cons (.str _) .nil))
        · rintro σ H6 ⟨⟨y5, rfl⟩, s6, ew6, eu6, ys, ep6, dys⟩
          have lvv : ((V.str nm :: v1 :: vr).drop 2).reverse.length = rest.length := by
            rw [List.length_reverse]
            exact lr
          rw [lvv, Nat.sub_self, List.drop_zero] at dys
          have lys := dys.length
          rw [commas_len] at lys
          have hb6 := s6 _ _ hb
          have lbig : (us ++ [V.str ")"] ++ ys).length ≤ 100010 := by
            rw [List.length_append, List.length_append, List.length_singleton]
            omega
          refine ⟨_, rfl, .inl ⟨rfl, _, .inl (.inl ep6)⟩, _, rfl, b, _, 1, v1, rfl, rfl, SqT.of hb6, atI_nat (j := 1) rfl, pl, _, v1, rfl, rfl, ep6, big (by omega), ?_⟩
          obtain ⟨s7, ew7⟩ := put (xs := us ++ [.str ")"] ++ ys ++ [v1]) s6 ew6
          have wc := wts_commas rest
          refine ⟨wts (st ++ [.str ")"] ++ commas rest ++ [e1d]), ?_, ⟨_, _, rfl⟩, us ++ [.str ")"] ++ ys ++ [v1], st ++ [.str ")"] ++ commas rest ++ [e1d], ws ++ [nm ++ "("], rfl, upd_same, ew7, s7, ?_, fun e he => ?_, ?_, ?_⟩
          · rw [wts_snoc, wts_snoc, wts_app, wts_snoc, wc, wte]
            show wts st + 1 + wtA rest + wt e1d < _
            omega
          · exact DxAll.append (DxAll.append (DxAll.append dx' (.cons (.str _) .nil)) dys) (.cons hv1 .nil)
          · rcases List.mem_append.mp he with he | he
            · rcases List.mem_append.mp he with he | he
              · rcases List.mem_append.mp he with he | he
                · exact ok' e he
                · rw [List.mem_singleton.mp he]
                  exact .inr ⟨_, rfl⟩
              · exact commas_ok hfa2.2 e he
            · rw [List.mem_singleton.mp he]
              exact .inl hfa2.1
          · rw [wts_snoc, wts_app, wts_snoc, wc, List.length_append, List.length_singleton]
            show _ + 1 + (wts st + 1 + wtA rest + wt e1d) ≤ _
            omega
          · have e2 : rx e1d = tx e1d := by
              cases e1d with
              | str y => cases hfa2.1
              | _ => rfl
            rw [rxs_snoc, rxs_commas _ _ hfa2.2, rxs_snoc, catS_snoc, ← tot, str_app, e2]
            show catS ws ++ (nm.cps.toList ++ [40]) ++ (tx e1d ++ (txM rest ++ ([41] ++ rxs st))) = catS ws ++ ((nm.cps.toList ++ 40 :: (tx e1d ++ (txM rest ++ [41]))) ++ rxs st)
            simp
    · -- a sign
      refine iteT ?_
      cases hv
      refine ⟨_, rfl, .inl ⟨rfl, _, .inl (.inl ew3)⟩, _, rfl, wl, _, .str y, rfl, rfl, ew3, big (by rw [List.length_map]; omega), ?_⟩
      refine ⟨wts st, by rw [wts_snoc]; omega, ⟨_, _, rfl⟩, us, st, ws ++ [y], rfl, by rw [upd_ne nwp.symm]; exact ep3, by rw [upd_same, List.map_append]; rfl, fun c o hc => ?_, dx', ok', by rw [List.length_append]; simp only [List.length_singleton]; omega, ?_⟩
      · rw [upd_ne (ne_of_none hc nwl)]
        exact sm3 c o hc
      · rw [catS_snoc, ← tot]
        simp [rx]
end
end K12
/-! Terms from left to right: all parts, and what is made of them from the right. -/
namespace K12
open PySem PySem.Spec PyProof.Rows L2 Kx
mutual
/-- all parts of a datum, itself first -/
def preD : PyData → List PyData
  | .tuple (x :: ds) => .tuple (x :: ds) :: preAll ds
  | d => [d]
def preAll : List PyData → List PyData
  | [] => []
  | d :: ds => preD d ++ preAll ds
end
theorem preAll_app : ∀ (l m : List PyData), preAll (l ++ m) = preAll l ++ preAll m
  | [], m => by simp [preAll]
  | d :: l, m => by simp [preAll, preAll_app l m]
def kidsD : PyData → List PyData
  | .tuple (_ :: ds) => ds
  | _ => []
theorem preD_eq {d : PyData} (h : formedD d = true) : preD d = d :: preAll (kidsD d) := by
  obtain ⟨x, ds, rfl, _⟩ := formed_shape h
  simp [preD, kidsD]
/-- one turn of a stack of data, the next one first -/
def turn : List PyData → List PyData
  | [] => []
  | d :: st => kidsD d ++ st
def stk (st : List PyData) : Nat → List PyData
  | 0 => st
  | k + 1 => turn (stk st k)
theorem kids_formed {d : PyData} (h : formedD d = true) : formedAll (kidsD d) = true := by
  obtain ⟨x, ds, rfl, _, _, h⟩ := formed_shape h
  exact h
theorem turn_formed {st : List PyData} (h : formedAll st = true) : formedAll (turn st) = true := by
  cases st with
  | nil => rfl
  | cons d st =>
    rw [formedAll, Bool.and_eq_true] at h
    rw [turn, formedAll_append, kids_formed h.1, h.2]
    rfl
theorem stk_formed {st : List PyData} (h : formedAll st = true) : ∀ k, formedAll (stk st k) = true
  | 0 => h
  | k + 1 => turn_formed (stk_formed h k)
theorem stk_drop {st : List PyData} (h : formedAll st = true) : ∀ k, preAll (stk st k) = (preAll st).drop k
  | 0 => by simp [stk]
  | k + 1 => by
    have e := stk_drop h k
    have f := stk_formed h k
    have e2 : (preAll st).drop (k + 1) = ((preAll st).drop k).tail := by rw [List.tail_drop]
    rw [stk, e2, ← e]
    cases es : stk st k with
    | nil => simp [turn, preAll]
    | cons d r =>
      rw [es, formedAll, Bool.and_eq_true] at f
      rw [turn, preAll, preD_eq f.1, preAll_app]
      rfl
/-- the stack at place k: what stands there comes first -/
theorem stk_at {st : List PyData} (h : formedAll st = true) {k : Nat} {d : PyData} (e : (preAll st)[k]? = some d) : ∃ r, stk st k = d :: r ∧ formedD d = true ∧ formedAll r = true ∧ stk st (k + 1) = kidsD d ++ r := by
  have e1 := stk_drop h k
  have f := stk_formed h k
  have e3 : ((preAll st).drop k)[0]? = some d := by rw [List.getElem?_drop]; exact e
  cases es : stk st k with
  | nil =>
    rw [es, preAll] at e1
    rw [← e1] at e3
    cases e3
  | cons c r =>
    rw [es, formedAll, Bool.and_eq_true] at f
    rw [es, preAll, preD_eq f.1] at e1
    rw [← e1] at e3
    simp at e3
    subst e3
    exact ⟨r, rfl, f.1, f.2, by rw [stk, es, turn]⟩
theorem pre_nil {st : List PyData} (h : formedAll st = true) (e : preAll st = []) : st = [] := by
  cases st with
  | nil => rfl
  | cons d r =>
    rw [formedAll, Bool.and_eq_true] at h
    rw [preAll, preD_eq h.1] at e
    cases e
theorem stk_end {st : List PyData} (h : formedAll st = true) {k : Nat} (e : (preAll st).length ≤ k) : stk st k = [] := by
  refine pre_nil (stk_formed h k) ?_
  rw [stk_drop h k]
  exact List.drop_eq_nil_of_le e
theorem stk_first {d : PyData} {st : List PyData} (hd : formedD d = true) (h : formedAll st = true) : stk (d :: st) (preD d).length = st := by
  have key : ∀ (n : Nat) (l : List PyData), (preAll l).length = n → formedAll l = true → ∀ st, stk (l ++ st) n = st := by
    intro n
    induction n with
    | zero =>
      intro l e f st
      have := pre_nil f (List.length_eq_zero_iff.mp e)
      rw [this]
      rfl
    | succ n ih =>
      intro l e f st
      cases l with
      | nil => cases e
      | cons c l =>
        rw [formedAll, Bool.and_eq_true] at f
        rw [preAll, preD_eq f.1] at e
        have e2 : (preAll (kidsD c ++ l)).length = n := by
          rw [preAll_app]
          simpa using e
        have sh : ∀ (m : Nat) (s : List PyData), stk s (m + 1) = stk (turn s) m := by
          intro m
          induction m with
          | zero => intro s; rfl
          | succ m ihm => intro s; rw [stk, ihm s, stk]
        rw [sh, List.cons_append, turn, ← List.append_assoc]
        exact ih (kidsD c ++ l) e2 (by rw [formedAll_append, kids_formed f.1, f.2]; rfl) st
  have := key (preAll [d]).length [d] rfl (by rw [formedAll, hd]; rfl) st
  rw [preAll, preAll, List.append_nil] at this
  exact this
theorem pre_rows : ∀ (d : PyData), formedD d = true → (preD d).length = (rowsD d).length
  | .tuple (x :: ds), h => by
    rw [formedD, Bool.and_eq_true] at h
    rw [preD, rowsD, List.length_cons, List.length_cons, pre_rowsAll ds h.2]
  | .tuple [], h => by cases h
  | .none, h => by cases h
  | .bool _, h => by cases h
  | .int _, h => by cases h
  | .str _, h => by cases h
  | .list _, h => by cases h
  | .dict _, h => by cases h
where pre_rowsAll : ∀ (ds : List PyData), formedAll ds = true → (preAll ds).length = (rowsAll ds).length
  | [], _ => rfl
  | d :: ds, h => by
    rw [formedAll, Bool.and_eq_true] at h
    rw [preAll, rowsAll, List.length_append, List.length_append, pre_rows d h.1, pre_rowsAll ds h.2]
end K12
/-! t[:0:-1] of a tuple of one to four. -/
namespace Kx
open PySem PySem.Spec PyProof.Rows L2 HT
section
variable {prog : Program} {w : World} {A : Around} {E : Value → Shared → Prop} {s : Shared}
theorem back0_adjust {n : Nat} (h : 1 ≤ n) : Builtin.Slice.sliceAdjust none (some 0) (-1) (n : Int) = ((n : Int) - 1, 0) := by
  have neg : (-1 : Int) < 0 := by decide
  unfold Builtin.Slice.sliceAdjust
  simp only [neg, if_true]
  refine Prod.ext ?_ ?_
  · rfl
  · have no : ¬ ((0 : Int) < 0) := by decide
    simp only [no, if_false]
    omega
theorem back0_places {n : Nat} (h : 1 ≤ n) : Builtin.Slice.slicePlaces ((n : Int) - 1) 0 (-1) = n - 1 := by
  unfold Builtin.Slice.slicePlaces
  have no : ¬ ((-1 : Int) > 0) := by decide
  simp only [no, if_false]
  rw [show -(-1 : Int) = 1 from rfl, Int.ediv_one]
  split <;> omega
theorem back0_pick : ∀ {xs : List Value}, 1 ≤ xs.length → xs.length ≤ 4 → ((List.range (xs.length - 1)).filterMap fun (m : Nat) => xs.toArray[((xs.length : Int) - 1 + (m : Int) * -1).toNat]?) = (xs.drop 1).reverse
  | [a], _, _ => rfl
  | [a, b], _, _ => rfl
  | [a, b, c], _, _ => rfl
  | [a, b, c, d], _, _ => rfl
  | [], h, _ => by simp at h
  | _ :: _ :: _ :: _ :: _ :: _, _, h => by simp at h
theorem back0_applied {sl : Addr} {vl vu vs : Value} {n : Nat} {Q : Int × Int × Nat → Shared → Prop} (hn : 1 ≤ n) (hs : s.heap.IsSliceOf sl vl vu vs) (pl : IsPart vl none) (pu : IsPart vu (some 0)) (ps : IsPart vs (some (-1)))
    (h : Q ((n : Int) - 1, -1, n - 1) s) : wpAny (model prog w) A (Builtin.Slice.sliceApplied (.ref sl) (pure (n : Int))) Q E s := by
  obtain ⟨ob, h1, h2, h3⟩ := id hs
  unfold Builtin.Slice.sliceApplied Builtin.Slice.sliceFields
  refine wpAny_bind (wpAny_bind (wpAny_field h1 h3 (x := vl) rfl (wpAny_bind (wpAny_field h1 h3 (x := vu) rfl (wpAny_bind (wpAny_field h1 h3 (x := vs) rfl (wpAny_pure ?_)))))))
  refine wpAny_bind (slicePart_ ps ?_)
  show wpAny _ _ (if ((-1 : Int) == 0) = true then _ else _) _ _ s
  rw [if_neg (by decide)]
  refine wpAny_bind (slicePart_ pl (wpAny_bind (slicePart_ pu (wpAny_bind (wpAny_pure ?_)))))
  show wpAny _ _ (match Builtin.Slice.sliceAdjust none (some 0) (-1) (n : Int) with | (lo, hi) => pure (lo, (-1 : Int), Builtin.Slice.slicePlaces lo hi (-1))) _ _ s
  rw [back0_adjust hn]
  show wpAny _ _ (pure ((n : Int) - 1, (-1 : Int), Builtin.Slice.slicePlaces ((n : Int) - 1) 0 (-1))) _ _ s
  rw [back0_places hn]
  exact wpAny_pure h
theorem getItem_back0 {t sl : Addr} {xs : List Value} {vl vu vs : Value} {Q : Value → Shared → Prop} (ht : IsTup s.heap t xs.toArray) (h2 : 1 ≤ xs.length) (h4 : xs.length ≤ 4) (hs : s.heap.IsSliceOf sl vl vu vs) (pl : IsPart vl none) (pu : IsPart vu (some 0)) (ps : IsPart vs (some (-1)))
    (h : Q (.ref s.heap.objs.size) { s with heap := s.heap.push { cls := .type "tuple", data := .seq (xs.drop 1).reverse.toArray } }) : wpAny (model prog w) A (getItem (.ref t) (.ref sl)) Q E s := by
  have few : sizeOk (.seq (xs.drop 1).reverse.toArray) := by
    show (xs.drop 1).reverse.toArray.size ≤ sizeLine
    rw [List.size_toArray, List.length_reverse, List.length_drop]
    exact Nat.le_trans (show xs.length - 1 ≤ 4 by omega) (by decide)
  obtain ⟨ob, ho, hc, hd⟩ := id hs
  have isS : s.TypeIs (.ref sl) "slice" := ⟨ob, ho, hc⟩
  unfold getItem
  try with_reducible refine wpAny_holding ?_
  first | refine wpAny_bind (wpAny_pure ?_) | skip
  refine wpAny_bind (wpAny_sequenceKey ht.typeIs (by decide) ?_)
  refine wpAny_bind (wpAny_callSpecial?_slot (name := Str.ofString "__getitem__") ht.typeIs PyProof.Rows.slot_tuple_getitem
    (wpAny_call_entry PyProof.Rows.slot_tuple_getitem ht.typeIs entry_tuple_getitem ?_ (args_tuple_getitem _ _)))
  show wpAny _ _ (Builtin.Tuple.tupleItemsOf (.ref t) >>= _) _ _ s
  refine wpAny_bind (tupleItemsOf_ ht ?_)
  refine wpAny_bind (wpAny_typeOf isS ?_)
  rw [if_pos (by decide)]
  have sz : xs.toArray.size = xs.length := List.size_toArray ..
  refine wpAny_bind (back0_applied (n := xs.toArray.size) (by rw [sz]; exact h2) hs pl pu ps ?_)
  rw [sz]
  have no : ¬ ((((xs.length : Int) - 1) == 0 && (-1 : Int) == 1 && (xs.length - 1) == xs.length) = true) := by simp
  show wpAny _ _ (if (((xs.length : Int) - 1) == 0 && (-1 : Int) == 1 && (xs.length - 1) == xs.length) = true then _ else _) _ _ s
  rw [if_neg no, back0_pick h2 h4]
  first
    | exact wpAny_bind (m := Builtin.Tuple.tupleExact _) (wpAny_newObj_type (wpAny_pure ⟨_, rfl, wpAny_pure h⟩) few)
    | exact wpAny_bind (m := Builtin.Tuple.tupleExact _) (wpAny_newObj_type (wpAny_bind (wpAny_pure (wpAny_pure ⟨_, rfl, wpAny_pure h⟩))) few)
    | exact wpAny_bind (wpAny_bind (m := Builtin.Tuple.tupleExact _) (wpAny_newObj_type (wpAny_pure (wpAny_pure ⟨_, rfl, wpAny_pure h⟩)) few))
    | exact wpAny_bind (wpAny_bind (m := Builtin.Tuple.tupleExact _) (wpAny_newObj_type (wpAny_pure ⟨_, rfl, wpAny_pure h⟩) few))
end
/-- t[:0:-1], t of one to four: what stands behind the first, from the end -/
def tBack0 (K : PySem.W.Frag) (te : TE) : TE := fun σ H Q => te σ H fun x H1 => ∃ a xs, x = .ref a ∧ SqT K H1 a xs ∧ 1 ≤ xs.length ∧ xs.length ≤ 4 ∧ ∀ p, H1 p = none → Q (.ref p) (upd H1 p (.tup (xs.drop 1).reverse))
section
variable {X : Cx}
theorem pe_back0 {e : Expr} {te : TE} {k k2 : Nat} {p1 p2 p3 p4 pos : Pos} (he : PE X e te) : PE X (.Subscript e (.Slice none (some (.Constant (.int 0) k2 p4)) (some (.UnaryOp .USub (.Constant (.int 1) k p1) p2)) p3) pos) (tBack0 X.K te) := by
  refine ⟨fun pins s σ H Q I h => ?_⟩
  refine Subscript_ (thn (he.run pins s σ H _ I h) fun v s1 ⟨x, H1, I1, r1, q1⟩ => ?_)
  obtain ⟨a, xs, ex, hx, l2, l4, q⟩ := q1
  subst ex
  cases r1
  have hlo : PO X (some (.Constant (.int 0) k2 p4)) (tPart (tC (.int 0))) := po_some pe_int
  have hst : PO X (some (.UnaryOp .USub (.Constant (.int 1) k p1) p2)) (tPart (tUn (rU fun i => .int (-i)) (tC (.int 1)))) := po_some (pe_un un_neg pe_int)
  refine wpAny_Slice (thn (po_none.run pins s1 σ H1 (fun o G => o = none ∧ G = H1) I1 ⟨rfl, rfl⟩) fun vl s2 ⟨l, H2, I2, pl, el, e2⟩ => ?_)
  subst el e2
  refine thn (hlo.run pins s2 σ H2 (fun o G => o = some 0 ∧ G = H2) I2 ⟨0, rfl, rfl, rfl⟩) fun vu s3 ⟨u, H3, I3, pu, eu, e3⟩ => ?_
  subst eu e3
  refine thn (hst.run pins s3 σ H3 (fun o G => o = some (-1) ∧ G = H3) I3 ⟨1, rfl, -1, rfl, rfl, rfl⟩) fun vs s4 ⟨o, H4, I4, ps, eo, e4⟩ => ?_
  subst eo e4
  have I5 : Inv X pins σ H4 { s4 with heap := s4.heap.push { cls := .type "slice", data := .fields #[vl, vu, vs] } } := I4.kept (t' := s4.toks) fun b ob q => Heap.get?_push_of_some _ q
  obtain ⟨its, r, ht, hz⟩ := I5.tuple hx
  have hlen := r.length
  show wpAny (model X.prog X.w) X.A (subscriptTail e (.Slice none (some (.Constant (.int 0) k2 p4)) (some (.UnaryOp .USub (.Constant (.int 1) k p1) p2)) p3) (.ref a) (.ref s4.heap.objs.size)) (EP X pins σ Q) X.xe { s4 with heap := s4.heap.push { cls := .type "slice", data := .fields #[vl, vu, vs] } }
  refine tail_any (ops := [.ref a, .ref s4.heap.objs.size]) ht.typeIs (PyProof.Rows.slot_tuple_getitem.lookup) ?_ (by with_unfolding_all rfl)
  refine getItem_back0 ht (by omega) (by omega) (Heap.IsSliceOf.new _ vl vu vs) pl pu ps ?_
  refine ⟨.ref _, _, I5.laid (t' := s4.toks) (o := .tup (xs.drop 1).reverse) (fun b ob q => Heap.get?_push_of_some _ q) (Nat.le_refl _) ?_, rfl, q _ (I5.hok.fresh (Nat.le_refl _))⟩
  exact ⟨by rw [List.length_reverse, List.length_drop]; omega, _, (r.drop 1).reverse, IsTup.new _ _⟩
end
end Kx
/-! preorder. -/
namespace K12
open PySem PySem.Spec PyProof.Rows L2 Kx
theorem dxr {K : PySem.W.Frag} {H : Hp} : ∀ {vs : List V} {ds : List PyData}, DxAll K H vs ds → DxAll K H vs.reverse ds.reverse
  | _, _, .nil => .nil
  | _, _, .cons a t => by
    rw [List.reverse_cons, List.reverse_cons]
    exact DxAll.append (dxr t) (.cons a .nil)
theorem pre_pos {d : PyData} : 0 < (preD d).length := by
  cases d with
  | tuple ds => cases ds <;> simp [preD]
  | _ => simp [preD]
theorem len_pre : ∀ l : List PyData, l.length ≤ (preAll l).length
  | [] => Nat.le_refl _
  | d :: l => by
    have := len_pre l
    have := pre_pos (d := d)
    rw [preAll, List.length_append, List.length_cons]
    omega
theorem big5 {n : Nat} (h : n ≤ 200000) : n < sizeLine := Nat.lt_of_le_of_lt h (by decide)
section
variable {P : Program} {w : World} {K : PySem.W.Frag} {mg : Str → Option Value} {base : Heap}
def spPre (K : PySem.W.Frag) : Sp := fun vs H Q _ => ∃ (a : Addr) (ws : List V) (st : List PyData) (H0 : Hp), vs = [.ref a] ∧ SqL K H a ws ∧ Same H0 H ∧ DxAll K H0 ws st ∧ formedAll st = true ∧ (preAll st).length ≤ 100000 ∧
  ∀ p H' us, Same H H' → H p = none → H' p = some (.lst us) → DxAll K H0 us (preAll st) → Q (.ref p) H'
theorem ok_pre (T : Tx K mg) : FnOk P w K mg base CX0 1 T.apreorder T.dpreorder ["terms"] (spPre K) := by
  have nd := sc_preorder.nd
  refine T.fpreorder.ok sc_preorder (fun vs H Q E h => ?_) (fun cdv A outer s H vs Q E hr h => ?_)
  · obtain ⟨a, ws, st, H0, rfl, _⟩ := h
    rfl
  · obtain ⟨a, ws, st0, H0, rfl, ha, s0, hx, hf, bd, q⟩ := h
    refine ⟨_, (pss_cons (ps_set (i := 1) nd rfl (.inl rfl) (pe_lst pa_nil))
      (pss_cons (ps_set (i := 2) nd rfl (.inl rfl) (pe_callTy call_list_of (by rfl) T.b_list (by decide +kernel) (pa_cons (pe_revL (pv 0)) pa_nil)))
      (pss_cons (ps_while PassesOwn.never (pt_truth (pv 2) (by intro _; rfl)) (pss_cons (ps_set (i := 3) nd rfl (.inl rfl) (pe_bm0 PySem.F.plainAttrs_list PySem.F.slot_list_pop PySem.F.type_list_pop mt_pop (pv 2)))
      (pss_cons (ps_expr (pe_bm PySem.F.plainAttrs_list PySem.F.slot_list_append PySem.F.type_list_append mt_append (pv 1) (pa_cons (pv 3) pa_nil)))
      (pss_one (ps_expr (pe_bm PySem.F.plainAttrs_list PySem.F.slot_list_extend PySem.F.type_list_extend mt_extT (pv 2) (pa_cons (pe_back0 (pv 3)) pa_nil)))))))
      (pss_one (ps_ret (pv 1)))))), ?_⟩
    refine ⟨Nat.zero_le _, fun f nf => ?_⟩
    have s1 := same_put (o := .lst []) nf
    refine ⟨_, rfl, a, ws, rfl, s1.seq ha, fun r nr => ⟨r, _, rfl, .inl (.inl (.inl upd_same)), fun wl nwl => ?_⟩⟩
    have s2 := s1.trans (same_put (o := .lst ws.reverse) nr)
    have nfr : f ≠ r := ne_of_none upd_same nr
    have ef2 : (upd (upd H f (.lst [])) r (.lst ws.reverse)) f = some (.lst []) := by rw [upd_ne nfr, upd_same]
    generalize upd (upd H f (.lst [])) r (.lst ws.reverse) = H2 at s2 ef2 nwl ⊢
    have s3 := s2.trans (same_put (o := .lst ws.reverse) nwl)
    have nfw : f ≠ wl := ne_of_none ef2 nwl
    have nwl0 : H wl = none := s2.free nwl
    refine ⟨fun m σ H3 => (∃ y3, σ = [some (.ref a), some (.ref f), some (.ref wl), y3]) ∧ ∃ (us vs : List V) (done st : List PyData), m = (preAll st).length ∧ H3 f = some (.lst us) ∧ H3 wl = some (.lst vs) ∧ Same H H3 ∧ DxAll K H0 us done ∧ DxAll K H0 vs st.reverse ∧ formedAll st = true ∧ done ++ preAll st = preAll st0,
      ⟨_, ⟨none, rfl⟩, [], ws.reverse, [], st0, rfl, by rw [upd_ne nfw]; exact ef2, upd_same, s3, .nil, dxr hx, hf, rfl⟩, ?_⟩
    rintro m σ H3 ⟨⟨y3, rfl⟩, us, vs, done, st, rfl, ef, ew, sm, du, dv, fo, tot⟩
    have lt := congrArg List.length tot
    rw [List.length_append] at lt
    have ld := du.length
    refine ⟨_, rfl, _, .inl ⟨vs, .inl (.inl ew), rfl⟩, ?_⟩
    cases st with
    | nil =>
      cases dv
      refine iteF ⟨_, rfl, q f _ us sm nf ef ?_⟩
      have e : done = preAll st0 := by rw [← tot]; simp [preAll]
      rw [← e]
      exact du
    | cons d st =>
      rw [List.reverse_cons] at dv
      obtain ⟨vs, v, rfl, dv', hv⟩ := snocDx dv
      have ne : (!(vs ++ [v]).isEmpty) = true := by cases vs <;> rfl
      rw [ne]
      rw [formedAll, Bool.and_eq_true] at fo
      have ep := preD_eq fo.1
      have lv := dv'.length
      rw [List.length_reverse] at lv
      have lst := len_pre st
      have lall : (preAll (d :: st)).length = 1 + ((preAll (kidsD d)).length + (preAll st).length) := by
        rw [preAll, ep, List.length_append, List.length_cons]
        omega
      rw [lall] at lt ⊢
      refine iteT ⟨fun σ' H' => ∃ m', m' < 1 + ((preAll (kidsD d)).length + (preAll st).length) ∧ _, fun _ _ h => h, ?_⟩
      refine ⟨_, rfl, .inl ⟨rfl, _, .inl (.inl ew)⟩, wl, _, v, rfl, rfl, ew, by simp, ?_⟩
      rw [List.dropLast_concat]
      have sm4 : Same H (upd H3 wl (.lst vs)) := fun c o hc => by
        rw [upd_ne (ne_of_none hc nwl0)]
        exact sm c o hc
      have ef4 : (upd H3 wl (.lst vs)) f = some (.lst us) := by
        rw [upd_ne nfw]
        exact ef
      have ew4 : (upd H3 wl (.lst vs)) wl = some (.lst vs) := upd_same
      generalize upd H3 wl (.lst vs) = H4 at sm4 ef4 ew4 ⊢
      refine ⟨_, rfl, .inl ⟨rfl, _, .inl (.inl ef4)⟩, _, rfl, f, us, v, rfl, rfl, ef4, big5 (by omega), ?_⟩
      have sm5 : Same H (upd H4 f (.lst (us ++ [v]))) := fun c o hc => by
        rw [upd_ne (ne_of_none hc nf)]
        exact sm4 c o hc
      have ef5 : (upd H4 f (.lst (us ++ [v]))) f = some (.lst (us ++ [v])) := upd_same
      have ew5 : (upd H4 f (.lst (us ++ [v]))) wl = some (.lst vs) := by
        rw [upd_ne nfw.symm]
        exact ew4
      generalize upd H4 f (.lst (us ++ [v])) = H5 at sm5 ef5 ew5 ⊢
      obtain ⟨nm, es, rfl, l3, hnm, hfa⟩ := formed_shape fo.1
      have hv' := hv
      cases hv' with
      | @tup b xs _ hb hs =>
      cases hs with
      | @cons v0 vr _ _ h0 hws =>
      cases h0
      have lw := hws.length
      refine ⟨_, rfl, .inl ⟨rfl, _, .inl (.inl ew5)⟩, _, rfl, b, _, rfl, SqT.of (sm5 _ _ (s0 _ _ hb)), by rw [List.length_cons]; omega, by rw [List.length_cons]; omega, fun c nc => ?_⟩
      have nwc : wl ≠ c := ne_of_none ew5 nc
      have nfc : f ≠ c := ne_of_none ef5 nc
      refine ⟨wl, c, vs, vr.reverse, rfl, rfl, by rw [upd_ne nwc]; exact ew5, SqT.of upd_same, ?_, ?_⟩
      · rw [List.length_reverse]
        exact Nat.le_of_lt (big5 (by omega))
      · refine ⟨(preAll (kidsD (.tuple (.str nm :: es)) ++ st)).length, by rw [preAll_app, List.length_append]; omega, ⟨_, rfl⟩, _, vs ++ vr.reverse, done ++ [.tuple (.str nm :: es)], es ++ st, rfl, ?_, upd_same, fun d o hd => ?_, DxAll.append du (.cons hv .nil), ?_, ?_, ?_⟩
        · rw [upd_ne nfw, upd_ne nfc]
          exact ef5
        · rw [upd_ne (ne_of_none hd nwl0), upd_ne]
          · exact sm5 d o hd
          · rintro rfl
            rw [sm5 _ _ hd] at nc
            cases nc
        · rw [List.reverse_append]
          exact DxAll.append dv' (dxr hws)
        · rw [formedAll_append, hfa, fo.2]
          rfl
        · rw [← tot, preAll_app, preAll, ep, List.append_assoc]
          rfl
end
end K12
/-! d.setdefault(t, z), t a tuple of texts and ints. -/
namespace Kx
open PySem PySem.Spec PyProof.Rows L2
section
variable {X : Cx} {pins : List (Addr × Obj)} {σ : L2.St} {H : Hp} {s : Shared} {a b : Addr} {r : Value} {d : V} {k : List Key} {A : Around} {E : Value → Shared → Prop}
theorem d_setdT {kvs : List (List Key × V)} {Q : Value → Shared → Prop} (hu : A.units + 1 < cLine) (I : Inv X pins σ H s) (e : H a = some (.dT kvs)) (eb : H b = some (.tup (k.map kV))) (rd : RelV d r) (hl : kvs.length < sizeLine)
    (h1 : ∀ v, valV kvs k = some v → ∀ (w' : Value) (s' : Shared), Inv X pins σ H s' → RelV v w' → Q w' s') (h2 : valV kvs k = none → ∀ (w' : Value) (s' : Shared), Inv X pins σ (upd H a (.dT (putK kvs k d))) s' → RelV d w' → Q w' s') :
    wpAny (model X.prog X.w) A (call (.builtin "dict.setdefault") [.ref a, .ref b, r]) Q E s := by
  obtain ⟨z, hd, xs, rel, dd⟩ := dt_of I.hok e
  have hz : xs.length ≤ sizeLine := by rw [← Paired.length rel]; exact z
  have q := rel.val k
  refine call_setdefault_heap (hsz := hz) (tupleKind_room_in1 hu) (key_of I.hok eb) hd dd (fun p hp => ?_) fun hn h' dd' hs => ?_
  · rw [hp] at q
    cases q0 : valV kvs k with
    | none =>
      rw [q0] at q
      exact (show False from q).elim
    | some v0 =>
      rw [q0] at q
      exact h1 v0 q0 _ _ (I.tok _) q
  · rw [hn] at q
    cases q0 : valV kvs k with
    | some v0 =>
      rw [q0] at q
      exact (show False from q).elim
    | none =>
      have hl2 : (putK kvs k d).length ≤ sizeLine := by
        have := length_putK kvs k d
        omega
      refine h2 q0 _ _ ?_ rd
      obtain ⟨ob, es, ep, hq, g2, g3, g4, _, g5⟩ := dd'
      refine d_write I (by rw [e]; exact True.intro) hs ⟨ob, hq⟩ ⟨hl2, hd, _, (rel.put k eb rd).keeps fun c ys ec => ?_, ob, es, ep, hq, g2, g3, g4, g5⟩
      rw [upd_ne (ne_of ec e (fun z => nomatch z))]
      exact ec
end
/-- d.setdefault(y, z), y a tuple -/
def tDSetT (td ty tx : TE) : TE := fun σ H Q => td σ H fun x H1 => ∃ a, x = .ref a ∧ IsD H1 a ∧ ty σ H1 fun y H2 => tx σ H2 fun z H3 => ∃ (kvs : List (List Key × V)) (k : List Key) (b : Addr), H3 a = some (.dT kvs) ∧ y = .ref b ∧ H3 b = some (.tup (k.map kV)) ∧ kvs.length < sizeLine ∧
  (∀ v, valV kvs k = some v → Q v H3) ∧ (valV kvs k = none → Q z (upd H3 a (.dT (putK kvs k z))))
section
variable {X : Cx} {o e f : Expr} {td ty tx : TE} {apos cpos : Pos}
theorem pe_dsetT (hu : X.A.units + 1 < cLine) (ho : PE X o td) (he : PE X e ty) (hf : PE X f tx) (m : M2 X o "setdefault" apos e f cpos) : PE X (.Call (.Attribute o "setdefault" apos) [e, f] [] cpos) (tDSetT td ty tx) := by
  refine ⟨fun pins s σ H Q I h => ?_⟩
  refine wpAny_Call_method m.base m.few m.line PySem.F.plainAttrs_dict PySem.F.slot_dict_setdefault PySem.F.type_dict_setdefault (thn (ho.run pins s σ H _ I h) fun u s1 ⟨x, H1, I1, rx, a, ex, d, q1⟩ => ?_)
  subst ex
  obtain rfl : u = Value.ref a := rx
  obtain ⟨t1, t2, _⟩ := isD_at I1 d
  refine ⟨t1, t2, ?_⟩
  rw [m.trees]
  refine Calls.callWith_builtin rfl (Calls.evalArgs_plain (Calls.spliced_cons (thn (he.run pins s1 σ H1 _ I1 q1) fun iv s2 ⟨y, H2, I2, ry, q2⟩ =>
    Calls.spliced_cons (thn (hf.run pins s2 σ H2 _ I2 q2) fun fv s3 ⟨z, H3, I3, rz, kvs, k, b, ea, ey, eb, hl, q3, q4⟩ => Calls.spliced_nil ?_))))
  subst ey
  obtain rfl : iv = Value.ref b := ry
  exact d_setdT hu I3 ea eb rz hl (fun v hv w' s4 I4 rw' => ⟨v, _, I4, rw', q3 v hv⟩) fun hn w' s4 I4 rw' => ⟨z, _, I4, rw', q4 hn⟩
end
end Kx
/-! Numbers for terms. -/
namespace K12
open PySem PySem.Spec PyProof.Rows L2 Kx
/-- is are places of ds among ts -/
def AtAll (ts : List PyData) : List Nat → List PyData → Prop
  | [], [] => True
  | i :: is, e :: es => ts[i]? = some e ∧ AtAll ts is es
  | _, _ => False
theorem AtAll.len {ts : List PyData} : ∀ {is : List Nat} {es : List PyData}, AtAll ts is es → is.length = es.length
  | [], [], _ => rfl
  | _ :: _, _ :: _, h => by rw [List.length_cons, List.length_cons, AtAll.len h.2]
  | [], _ :: _, h => h.elim
  | _ :: _, [], h => h.elim
theorem AtAll.app {ts : List PyData} : ∀ {is : List Nat} {es : List PyData} {js : List Nat} {fs : List PyData}, AtAll ts is es → AtAll ts js fs → AtAll ts (is ++ js) (es ++ fs)
  | [], [], _, _, _, g => g
  | _ :: _, _ :: _, _, _, h, g => ⟨h.1, AtAll.app h.2 g⟩
  | [], _ :: _, _, _, h, _ => h.elim
  | _ :: _, [], _, _, h, _ => h.elim
theorem AtAll.grow {ts : List PyData} (us : List PyData) : ∀ {is : List Nat} {es : List PyData}, AtAll ts is es → AtAll (ts ++ us) is es
  | [], [], _ => True.intro
  | i :: _, _ :: _, h => ⟨by rw [List.getElem?_append_left (List.getElem?_eq_some_iff.mp h.1).1]; exact h.1, AtAll.grow us h.2⟩
  | [], _ :: _, h => h.elim
  | _ :: _, [], h => h.elim
theorem AtAll.rev {ts : List PyData} : ∀ {is : List Nat} {es : List PyData}, AtAll ts is es → AtAll ts is.reverse es.reverse
  | [], [], _ => True.intro
  | i :: is, e :: es, h => by
    rw [List.reverse_cons, List.reverse_cons]
    exact AtAll.app (AtAll.rev h.2) ⟨h.1, True.intro⟩
  | [], _ :: _, h => h.elim
  | _ :: _, [], h => h.elim
theorem AtAll.same {ts : List PyData} : ∀ {is : List Nat} {es fs : List PyData}, AtAll ts is es → AtAll ts is fs → es = fs
  | [], [], [], _, _ => rfl
  | _ :: _, e :: es, f :: fs, h, g => by
    have e1 := Option.some.inj (h.1.symm.trans g.1)
    rw [e1, AtAll.same h.2 g.2]
  | [], _ :: _, _, h, _ => h.elim
  | _ :: _, [], _, h, _ => h.elim
  | [], [], _ :: _, _, g => g.elim
  | _ :: _, _ :: _, [], _, g => g.elim
theorem at_uniq {ts : List PyData} (nd : ts.Nodup) {i j : Nat} {t : PyData} (h : ts[i]? = some t) (g : ts[j]? = some t) : i = j := by
  obtain ⟨hi, e1⟩ := List.getElem?_eq_some_iff.mp h
  obtain ⟨hj, e2⟩ := List.getElem?_eq_some_iff.mp g
  exact (List.getElem_inj nd).mp (e1.trans e2.symm)
theorem AtAll.uniq {ts : List PyData} (nd : ts.Nodup) : ∀ {is js : List Nat} {es : List PyData}, AtAll ts is es → AtAll ts js es → is = js
  | [], [], [], _, _ => rfl
  | i :: is, j :: js, e :: es, h, g => by rw [at_uniq nd h.1 g.1, AtAll.uniq nd h.2 g.2]
  | [], _, _ :: _, h, _ => h.elim
  | _ :: _, _, [], h, _ => h.elim
  | _ :: _, [], _ :: _, _, g => g.elim
  | [], _ :: _, [], _, g => g.elim
/-- the last items of a list of places -/
theorem AtAll.split {ts : List PyData} : ∀ {es : List PyData} {is : List Nat} {fs : List PyData}, AtAll ts is (es ++ fs) → ∃ a b, is = a ++ b ∧ AtAll ts a es ∧ AtAll ts b fs
  | [], is, fs, h => ⟨[], is, rfl, True.intro, h⟩
  | e :: es, i :: is, fs, h => by
    obtain ⟨a, b, rfl, h1, h2⟩ := AtAll.split (es := es) h.2
    exact ⟨i :: a, b, rfl, ⟨h.1, h1⟩, h2⟩
  | _ :: _, [], _, h => h.elim
def numV (is : List Nat) : List V := is.map fun (n : Nat) => V.int (n : Int)
def numK (is : List Nat) : List Key := is.map fun (n : Nat) => (Sum.inl (n : Int) : Key)
def KeyOf (ts : List PyData) (key : List Key) (t : PyData) : Prop := ∃ (x : Str) (es : List PyData) (is : List Nat), t = .tuple (.str x :: es) ∧ key = Sum.inr x :: numK is ∧ AtAll ts is es
/-- the table of the terms ts -/
structure Tab (ts : List PyData) (kvs : List (List Key × V)) : Prop where
  len : kvs.length = ts.length
  nodup : ts.Nodup
  row : ∀ (i : Nat) t, ts[i]? = some t → ∃ key, kvs[i]? = some (key, V.int (i : Int)) ∧ KeyOf ts key t
theorem vals_some {k : List Key} {v : V} : ∀ {kvs : List (List Key × V)}, valV kvs k = some v → ∃ i : Nat, kvs[i]? = some (k, v)
  | [], h => by cases h
  | p :: r, h => by
    by_cases e : p.1 = k
    · rw [valV_pos e] at h
      refine ⟨0, ?_⟩
      rw [← e, ← Option.some.inj h]
      rfl
    · rw [valV_neg e] at h
      obtain ⟨i, hi⟩ := vals_some h
      exact ⟨i + 1, by simpa using hi⟩
theorem vals_none {k : List Key} : ∀ {kvs : List (List Key × V)}, valV kvs k = none → ∀ (i : Nat) (v : V), kvs[i]? ≠ some (k, v)
  | [], _, i, v => by simp
  | p :: r, h, i, v => by
    by_cases e : p.1 = k
    · rw [valV_pos e] at h
      cases h
    · rw [valV_neg e] at h
      intro z
      cases i with
      | zero =>
        rw [List.getElem?_cons_zero] at z
        exact e (by rw [Option.some.inj z])
      | succ i => exact vals_none h i v (by simpa using z)
theorem inl_inj : ∀ {is js : List Nat}, numK is = numK js → is = js
  | [], [], _ => rfl
  | [], _ :: _, h => by cases h
  | _ :: _, [], h => by cases h
  | i :: is, j :: js, h => by
    rw [show numK (i :: is) = Sum.inl (i : Int) :: numK is from rfl, show numK (j :: js) = Sum.inl (j : Int) :: numK js from rfl, List.cons.injEq] at h
    have e := Sum.inl.inj h.1
    rw [inl_inj h.2, show i = j by omega]
theorem KeyOf.same {ts : List PyData} {key : List Key} {t u : PyData} (h : KeyOf ts key t) (g : KeyOf ts key u) : t = u := by
  obtain ⟨x, es, is, rfl, e1, a1⟩ := h
  obtain ⟨y, fs, js, rfl, e2, a2⟩ := g
  rw [e1, List.cons.injEq] at e2
  have ex := Sum.inr.inj e2.1
  have ei := inl_inj e2.2
  subst ex ei
  rw [a1.same a2]
theorem KeyOf.uniq {ts : List PyData} (nd : ts.Nodup) {key kay : List Key} {t : PyData} (h : KeyOf ts key t) (g : KeyOf ts kay t) : key = kay := by
  obtain ⟨x, es, is, rfl, rfl, a1⟩ := h
  obtain ⟨y, fs, js, e, rfl, a2⟩ := g
  rw [PyData.tuple.injEq, List.cons.injEq, PyData.str.injEq] at e
  obtain ⟨ex, ef⟩ := e
  subst ex ef
  rw [a1.uniq nd a2]
theorem KeyOf.grow {ts : List PyData} {key : List Key} {t : PyData} (us : List PyData) (h : KeyOf ts key t) : KeyOf (ts ++ us) key t := by
  obtain ⟨x, es, is, e1, e2, a⟩ := h
  exact ⟨x, es, is, e1, e2, a.grow us⟩
theorem Tab.hit {ts : List PyData} {kvs : List (List Key × V)} {key : List Key} {t : PyData} {v : V} (T : Tab ts kvs) (k : KeyOf ts key t) (h : valV kvs key = some v) : ∃ i : Nat, v = .int (i : Int) ∧ ts[i]? = some t := by
  obtain ⟨i, hi⟩ := vals_some h
  have lt : i < ts.length := by
    rw [← T.len]
    exact (List.getElem?_eq_some_iff.mp hi).1
  obtain ⟨kay, e1, e2⟩ := T.row i _ (List.getElem?_eq_getElem lt)
  rw [hi, Option.some.injEq, Prod.mk.injEq] at e1
  obtain ⟨e1, e3⟩ := e1
  subst e1
  refine ⟨i, e3, ?_⟩
  rw [List.getElem?_eq_getElem lt, e2.same k]
theorem Tab.miss {ts : List PyData} {kvs : List (List Key × V)} {key : List Key} {t : PyData} (T : Tab ts kvs) (k : KeyOf ts key t) (h : valV kvs key = none) : Tab (ts ++ [t]) (kvs ++ [(key, .int (ts.length : Int))]) := by
  have no : t ∉ ts := fun z => by
    obtain ⟨i, hi⟩ := List.mem_iff_getElem?.mp z
    obtain ⟨kay, e1, e2⟩ := T.row i t hi
    rw [KeyOf.uniq T.nodup e2 k] at e1
    exact vals_none h i _ e1
  refine ⟨by rw [List.length_append, List.length_append, T.len]; rfl, ?_, fun i u hi => ?_⟩
  · rw [List.nodup_append]
    refine ⟨T.nodup, by simp, fun a ha b hb => ?_⟩
    rw [List.mem_singleton.mp hb]
    rintro rfl
    exact no ha
  · by_cases lt : i < ts.length
    · rw [List.getElem?_append_left lt] at hi
      obtain ⟨kay, e1, e2⟩ := T.row i u hi
      exact ⟨kay, by rw [List.getElem?_append_left (by rw [T.len]; exact lt)]; exact e1, e2.grow _⟩
    · rw [List.getElem?_append_right (Nat.le_of_not_lt lt)] at hi
      have e0 : i - ts.length = 0 := by
        have := (List.getElem?_eq_some_iff.mp hi).1
        simp at this
        omega
      rw [e0] at hi
      simp at hi
      subst hi
      have ei : i = ts.length := by omega
      subst ei
      exact ⟨key, by rw [← T.len, List.getElem?_append_right (Nat.le_refl _), Nat.sub_self]; rfl, k.grow _⟩
theorem keyV (x : Str) (is : List Nat) : ((Sum.inr x :: numK is) : List Key).map kV = V.str x :: numV is := by
  rw [List.map_cons, numK, List.map_map]
  rfl
end K12
/-! Slices and sums of tuples as data. -/
namespace Kx
open PySem PySem.Spec PyProof.Rows L2
theorem offs_nil {H : Hp} : Same H (OffS [] H) := fun b o h => OffS.out (fun z => nomatch z) h
theorem olds_nil {H : Hp} : Olds [] H := fun b z => nomatch z
section
variable {K : PySem.W.Frag} {S : List Addr} {H : Hp} {x y : V} {ds es : List PyData} {Q : VK}
theorem sl_upto {i : Nat} (hx : Dx K (OffS S H) x (.tuple ds)) (o : Olds S H) (q : ∀ y H', Same H H' → Dx K (OffS S H') y (.tuple (ds.take i)) → Q y H') : rSlA K x none (some (i : Int)) H Q := by
  cases hx with
  | @tup a xs _ ha hs =>
  refine ⟨a, xs, rfl, SqT.of (OffS.all _ _ ha), fun z => ?_, fun _ p np => ?_⟩
  · have e : min i xs.length = xs.length := by
      have := z.2
      rwa [show HT.sIx xs.length xs.length (some (i : Int)) = min i xs.length from HT.sIx_nat xs.length xs.length i] at this
    refine q _ _ (Same.refl H) ?_
    rw [List.take_of_length_le (by rw [← hs.length]; omega)]
    exact .tup ha hs
  · have e : cutV xs none (some (i : Int)) = xs.take i := by
      unfold cutV
      rw [show HT.sIx xs.length xs.length (some (i : Int)) = min i xs.length from HT.sIx_nat xs.length xs.length i, show HT.sIx xs.length 0 none = 0 from rfl, List.drop_zero, Nat.sub_zero]
      by_cases e : i ≤ xs.length
      · rw [Nat.min_eq_left e]
      · rw [Nat.min_eq_right (by omega), List.take_length, List.take_of_length_le (by omega)]
    rw [e]
    exact q _ _ (same_put np) (.tup (OffS.out (o.new np) upd_same) ((hs.take i).up (OffS.same (same_put np))))
theorem sl_from {i : Nat} (hx : Dx K (OffS S H) x (.tuple ds)) (o : Olds S H) (q : ∀ y H', Same H H' → Dx K (OffS S H') y (.tuple (ds.drop i)) → Q y H') : rSlA K x (some (i : Int)) none H Q := by
  cases hx with
  | @tup a xs _ ha hs =>
  refine ⟨a, xs, rfl, SqT.of (OffS.all _ _ ha), fun z => ?_, fun _ p np => ?_⟩
  · have e : min i xs.length = 0 := by
      have := z.1
      rwa [show HT.sIx xs.length 0 (some (i : Int)) = min i xs.length from HT.sIx_nat xs.length 0 i] at this
    refine q _ _ (Same.refl H) ?_
    by_cases h : i = 0
    · rw [h, List.drop_zero]
      exact .tup ha hs
    · have : ds = [] := List.eq_nil_of_length_eq_zero (by rw [← hs.length]; omega)
      rw [this] at hs ⊢
      rw [List.drop_nil]
      exact .tup ha hs
  · have e : cutV xs (some (i : Int)) none = xs.drop i := by
      unfold cutV
      rw [show HT.sIx xs.length 0 (some (i : Int)) = min i xs.length from HT.sIx_nat xs.length 0 i, HT.sIx_none]
      by_cases e : i ≤ xs.length
      · rw [Nat.min_eq_left e, List.take_of_length_le (by rw [List.length_drop]; omega)]
      · rw [Nat.min_eq_right (by omega), Nat.sub_self, List.take_zero, List.drop_eq_nil_of_le (by omega)]
    rw [e]
    exact q _ _ (same_put np) (.tup (OffS.out (o.new np) upd_same) ((hs.drop i).up (OffS.same (same_put np))))
theorem cat_tups (hx : Dx K (OffS S H) x (.tuple ds)) (hy : Dx K (OffS S H) y (.tuple es)) (o : Olds S H) (few : ds.length + es.length ≤ sizeLine) (q : ∀ z H', Same H H' → Dx K (OffS S H') z (.tuple (ds ++ es)) → Q z H') : rCatA K x y H Q := by
  cases hx with
  | @tup a xs _ ha hs =>
  cases hy with
  | @tup b ys _ hb ht =>
  refine ⟨a, b, xs, ys, rfl, rfl, SqT.of (OffS.all _ _ ha), SqT.of (OffS.all _ _ hb), by rw [hs.length, ht.length]; exact few, fun e => ?_, fun _ e => ?_, fun _ _ p np => ?_⟩
  · subst e
    cases hs
    exact q _ _ (Same.refl H) (.tup hb ht)
  · subst e
    cases ht
    rw [List.append_nil] at q
    exact q _ _ (Same.refl H) (.tup ha hs)
  · exact q _ _ (same_put np) (.tup (OffS.out (o.new np) upd_same) (DxAll.append (hs.up (OffS.same (same_put np))) (ht.up (OffS.same (same_put np)))))
end
end Kx
/-! All but some addresses stay. -/
namespace Kx
open PySem PySem.Spec PyProof.Rows L2
def ButL (S : List Addr) (H H' : Hp) : Prop := ∀ b o, H b = some o → b ∉ S → H' b = some o
section
variable {S S' : List Addr} {H H0 G G' : Hp} {b p : Addr} {o u : HO}
theorem ButL.refl : ButL S H H := fun _ _ h _ => h
theorem ButL.of (s : Same H G) : ButL S H G := fun b o h _ => s b o h
theorem ButL.trans (x : ButL S H G) (y : ButL S G G') : ButL S H G' := fun b o h n => y b o (x b o h n) n
theorem ButL.at (x : ButL S H G) (e : H b = some o) (n : b ∉ S) : G b = some o := x b o e n
theorem ButL.put (x : ButL S H G) (m : b ∈ S) : ButL S H (upd G b u) := fun c o h n => by
  rw [upd_ne (fun z : c = b => n (by rw [z]; exact m))]
  exact x c o h n
theorem ButL.new (x : ButL S H G) (np : G p = none) : ButL S H (upd G p u) := fun c o h n => by
  rw [upd_ne (ne_of_none (x c o h n) np)]
  exact x c o h n
theorem ButL.same (s : Same H0 H) (n : ∀ b ∈ S, H0 b = none) (x : ButL S H G) : Same H0 G := fun b o h => x b o (s b o h) fun z => by
  rw [n b z] at h
  cases h
theorem ButL.weak (x : ButL S H G) (h : ∀ b ∈ S, b ∈ S') : ButL S' H G := fun b o e n => x b o e fun z => n (h b z)
end
end Kx
namespace Kx
open PySem PySem.Spec PyProof.Rows L2
section
variable {S S' : List Addr} {H G : Hp}
theorem offs_but (x : ButL S' H G) (n : ∀ b, b ∈ S' → b ∉ S → H b = none) : Same (OffS S H) (OffS S G) := fun b o h => by
  obtain ⟨m, h⟩ := OffS.of h
  refine OffS.out m (x b o h fun z => ?_)
  rw [n b z m] at h
  cases h
theorem same_offs (s : Same H G) (n : ∀ b, b ∈ S → H b = none) : Same H (OffS S G) := fun b o h => OffS.out (fun z => by
  rw [n b z] at h
  cases h) (s b o h)
end
end Kx
/-! numbered_rows, numbered. -/
namespace K12
open PySem PySem.Spec PyProof.Rows L2 Kx
theorem isKeys_up {H H' : Hp} {kvs : List (List Key × V)} {bs : List Addr} (s : Same H H') (h : IsKeys H kvs bs) : IsKeys H' kvs bs := by
  unfold IsKeys at h ⊢
  induction h with
  | nil => exact .nil
  | cons a _ ih => exact .cons (s _ _ a) ih
theorem numV_app (a b : List Nat) : numV (a ++ b) = numV a ++ numV b := List.map_append ..
theorem at_of {α : Type} {l : List α} {k : Nat} (h : k < l.length) : l[k]? = some l[k] := List.getElem?_eq_getElem h
section
variable {P : Program} {w : World} {K : PySem.W.Frag} {mg : Str → Option Value} {base : Heap}
def spRows (K : PySem.W.Frag) : Sp := fun vs H Q _ => ∃ (a : Addr) (ws : List V) (st : List PyData), vs = [.ref a] ∧ SqL K H a ws ∧ DxAll K H ws (preAll st) ∧ formedAll st = true ∧ (preAll st).length ≤ 100000 ∧
  ∀ p nl tl H' ts is kvs bs, Same H H' → H' p = some (.tup [.ref nl, .ref tl]) → H' nl = some (.lst (numV is)) → AtAll ts is (preAll st) → Tab ts kvs → H' tl = some (.lst (bs.map V.ref)) → IsKeys H' kvs bs → Q (.ref p) H'
theorem ok_rows (T : Tx K mg) : FnOk P w K mg base CX0 1 T.anumbered_rows T.dnumbered_rows ["parts"] (spRows K) := by
  have nd := sc_numbered_rows.nd
  refine T.fnumbered_rows.ok sc_numbered_rows (fun vs H Q E h => ?_) (fun cdv A outer s H vs Q E hr h => ?_)
  · obtain ⟨a, ws, st, rfl, _⟩ := h
    rfl
  · obtain ⟨a, ws, st0, rfl, ha, hx, hf, bd, q⟩ := h
    have hu := hu_of hr
    refine ⟨_, (pss_cons (ps_set (i := 1) nd rfl (.inl rfl) pe_dnewT)
      (pss_cons (ps_set (i := 2) nd rfl (.inr rfl) (pe_lst pa_nil))
      (pss_cons (ps_set (i := 3) nd rfl (.inl rfl) (pe_lst pa_nil))
      (pss_cons (ps_for PassesOwn.never rfl (pi_list (pe_revL (pv 0))) (pg_name (i := 4) nd rfl (.inl rfl)) (pss_cons (ps_setLc (i := 5) (own := [("_", 7)]) (g := (gName 7)) (tt := tYes) (te := tBM0 K "list" rPop (tVar 2)) (by rfl) nd rfl rfl (sw_true rfl rfl rfl (by decide +kernel)) (pi_tup (pe_slice sl_tupA (pv 4) (po_some pe_int) po_none)) (blkOk_by (own := [("_", 7)]) (N := N_numbered_rows) (sc := defScope s_numbered_rows) (by decide +kernel)) (fun _ _ _ _ _ => pg_name (i := 7) nd rfl (.inl rfl)) (fun _ _ _ _ _ => pts_nil) (fun _ _ _ _ _ => by exact (pe_bm0 PySem.F.plainAttrs_list PySem.F.slot_list_pop PySem.F.type_list_pop mt_pop (pv 2))))
      (C8.pss_cut (ps_set (i := 6) nd rfl (.inl rfl) (pe_dsetT hu (pv 1) (pe_tup (pa_cons (pe_ix ix_tup (pv 4) pe_int (fun _ _ => rfl)) (StX.pa_star (pv 5) pa_nil))) (pe_callB call_len_dT (by rfl) T.b_len (by decide +kernel) (pa_cons (pv 1) pa_nil)) ⟨by rfl, by rfl, by rfl, by rfl⟩))
      (pss_cons (ps_expr (pe_bm PySem.F.plainAttrs_list PySem.F.slot_list_append PySem.F.type_list_append mt_append (pv 2) (pa_cons (pv 6) pa_nil)))
      (pss_one (ps_expr (pe_bm PySem.F.plainAttrs_list PySem.F.slot_list_append PySem.F.type_list_append mt_append (pv 3) (pa_cons (pv 6) pa_nil))))))))
      (pss_one (ps_ret (pe_tup (pa_cons (pe_revL (pv 3)) (pa_cons (pe_callTy (call_list_dT rfl) (by rfl) T.b_list (by decide +kernel) (pa_cons (pv 1) pa_nil)) pa_nil))))))))), ?_⟩
    intro t nt
    have s1 := same_put (o := .dT []) nt
    have et1 : (upd H t (.dT [])) t = some (.dT []) := upd_same
    generalize upd H t (.dT []) = H1 at s1 et1 ⊢
    refine ⟨Nat.zero_le _, fun rd nrd => ?_⟩
    have nrd0 := s1.free nrd
    have ntr : t ≠ rd := ne_of_none et1 nrd
    have s2 := s1.trans (same_put (o := .lst []) nrd)
    have et2 := same_put (o := .lst []) nrd _ _ et1
    have er2 : (upd H1 rd (.lst [])) rd = some (.lst []) := upd_same
    generalize upd H1 rd (.lst []) = H2 at s2 et2 er2 ⊢
    refine ⟨Nat.zero_le _, fun nm nnm => ?_⟩
    have nnm0 := s2.free nnm
    have ntn : t ≠ nm := ne_of_none et2 nnm
    have nrn : rd ≠ nm := ne_of_none er2 nnm
    have s3 := s2.trans (same_put (o := .lst []) nnm)
    have et3 := same_put (o := .lst []) nnm _ _ et2
    have er3 := same_put (o := .lst []) nnm _ _ er2
    have en3 : (upd H2 nm (.lst [])) nm = some (.lst []) := upd_same
    generalize upd H2 nm (.lst []) = H3 at s3 et3 er3 en3 ⊢
    refine ⟨_, rfl, a, ws, rfl, s3.seq ha, fun rp nrp => ?_⟩
    have nrp0 := s3.free nrp
    have ntp : t ≠ rp := ne_of_none et3 nrp
    have nrr : rd ≠ rp := ne_of_none er3 nrp
    have nnp : nm ≠ rp := ne_of_none en3 nrp
    have s4 := s3.trans (same_put (o := .lst ws.reverse) nrp)
    have et4 := same_put (o := .lst ws.reverse) nrp _ _ et3
    have er4 := same_put (o := .lst ws.reverse) nrp _ _ er3
    have en4 := same_put (o := .lst ws.reverse) nrp _ _ en3
    have ep4 : (upd H3 rp (.lst ws.reverse)) rp = some (.lst ws.reverse) := upd_same
    generalize upd H3 rp (.lst ws.reverse) = H4 at s4 et4 er4 en4 ep4 ⊢
    have lw := hx.length
    refine ⟨rp, rfl, ⟨_, .inl (.inl ep4)⟩, for_list (K := K) (a := rp) (xs := ws.reverse) (fun i σ H' => (∃ y4 y5 y6 y7, σ = [some (.ref a), some (.ref t), some (.ref rd), some (.ref nm), y4, y5, y6, y7]) ∧ Same H H' ∧ H' rp = some (.lst ws.reverse) ∧
        ∃ (ts : List PyData) (kvs : List (List Key × V)) (rs ms : List Nat), H' t = some (.dT kvs) ∧ Tab ts kvs ∧ ts.length ≤ i ∧ H' rd = some (.lst (numV rs)) ∧ AtAll ts rs (stk st0 ((preAll st0).length - i)).reverse ∧ H' nm = some (.lst (numV ms)) ∧ AtAll ts ms ((preAll st0).drop ((preAll st0).length - i)).reverse)
      ⟨⟨_, _, _, _, rfl⟩, s4, ep4, [], [], [], [], et4, ⟨rfl, List.nodup_nil, fun i t h => by simp at h⟩, Nat.zero_le _, er4, ?_, en4, ?_⟩ (fun i σ H' _ h => .inl (.inl h.2.2.1)) ?_ ?_⟩
    · rw [Nat.sub_zero, stk_end hf (Nat.le_refl _)]
      exact True.intro
    · rw [Nat.sub_zero, List.drop_length]
      exact True.intro
    · rintro i x σ G hi ⟨⟨y4, y5, y6, y7, rfl⟩, sG, epG, ts, kvs, rs, ms, etG, tab, lts, erG, ars, enG, ams⟩
      obtain ⟨lti, hi⟩ := rev_at hi
      rw [lw] at lti hi
      obtain ⟨v', hv', dx⟩ := hx.get (at_of (show (preAll st0).length - 1 - i < (preAll st0).length by omega))
      rw [hi] at hv'
      cases hv'
      obtain ⟨r, ek, fd, fr, ek1⟩ := stk_at hf (at_of (show (preAll st0).length - 1 - i < (preAll st0).length by omega))
      have ed := drop_at (at_of (show (preAll st0).length - 1 - i < (preAll st0).length by omega))
      rw [show (preAll st0).length - 1 - i + 1 = (preAll st0).length - i by omega] at ek1 ed
      rw [ek1] at ars
      have en1 : (preAll st0).length - (i + 1) = (preAll st0).length - 1 - i := by omega
      generalize (preAll st0)[(preAll st0).length - 1 - i] = d at dx ek fd ek1 ed ars
      obtain ⟨nm', es, rfl, l3, hnm, hfa⟩ := formed_shape fd
      rw [show kidsD (.tuple (.str nm' :: es)) = es from rfl, List.reverse_append] at ars
      obtain ⟨ra, rb, rfl, ara, arb⟩ := ars.split
      obtain ⟨ks, rfl⟩ : ∃ ks, rb = ks.reverse := ⟨rb.reverse, (List.reverse_reverse _).symm⟩
      have akb := arb.rev
      rw [List.reverse_reverse, List.reverse_reverse] at akb
      have lks := akb.len
      have lra := ara.len
      rw [List.length_reverse] at lra
      have dx' := dx
      cases dx' with
      | @tup b xs _ hb hs =>
      cases hs with
      | @cons v0 vr _ _ h0 hws =>
      cases h0
      have lvr := hws.length
      have hbG := sG _ _ hb
      refine ⟨_, rfl, 1, rfl, ?_⟩
      dsimp only [tNoPart]
      refine sl_from (S := []) (i := 1) ((dx.up sG).up offs_nil) olds_nil fun y G1 sG1 dy => ?_
      have dy := dy.up OffS.all
      rw [List.drop_one, List.tail_cons] at dy
      cases dy with
      | @tup c us _ hc hus =>
      have lus := hus.length
      refine ⟨c, rfl, ⟨_, SqT.of hc⟩, fun D nD => ?_⟩
      have ntD : t ≠ D := ne_of_none (sG1 _ _ etG) nD
      have nrD : rd ≠ D := ne_of_none (sG1 _ _ erG) nD
      have nnD : nm ≠ D := ne_of_none (sG1 _ _ enG) nD
      have npD : rp ≠ D := ne_of_none (sG1 _ _ epG) nD
      have ncD : c ≠ D := ne_of_none hc nD
      have ncr : c ≠ rd := fun e => by
        rw [e, sG1 _ _ erG] at hc
        cases hc
      refine lc_tup (K := K) (a := c) (xs := us) (fun j H6 => ButL [rd, D] G1 H6 ∧ H6 rd = some (.lst (numV (ra ++ (ks.drop j).reverse))) ∧ H6 D = some (.lst (numV (ks.take j))))
        ⟨ButL.of (same_put nD), by rw [upd_ne nrD, List.drop_zero]; exact sG1 _ _ erG, by rw [upd_same]; rfl⟩ (fun j H6 _ h => SqT.of (h.1.at hc (by simp [ncr, ncD]))) ?_ ?_
      · rintro j y H6 hj ⟨bt, e6, eD⟩
        have ltj : j < ks.length := by
          rw [lks, ← lus]
          exact (List.getElem?_eq_some_iff.mp hj).1
        have e6' : H6 rd = some (.lst (numV (ra ++ (ks.drop (j + 1)).reverse) ++ [V.int (ks[j] : Nat)])) := by
          rw [e6, drop_at (at_of ltj), List.reverse_cons, ← List.append_assoc, numV_app]
          rfl
        refine ⟨rfl, (iteT (B := False) ?_ : if true = true then _ else False)⟩
        refine ⟨_, rfl, .inl ⟨rfl, _, .inl (.inl e6')⟩, rd, _, V.int (ks[j] : Nat), rfl, rfl, e6', by simp, ?_⟩
        rw [List.dropLast_concat]
        refine ⟨_, by rw [upd_ne nrD.symm]; exact eD, ?_, ?_, ?_, ?_⟩
        · rw [numV, List.length_map, List.length_take]
          exact small1000 (by omega)
        · exact (bt.put (by simp)).put (by simp)
        · rw [upd_ne nrD, upd_same]
        · rw [upd_same, List.take_add_one, at_of ltj, numV_app]
          rfl
      · rintro H6 ⟨bt, e6, eD⟩
        rw [lus, ← lks, List.drop_length, List.reverse_nil, List.append_nil] at e6
        rw [lus, ← lks, List.take_length] at eD
        have et6 := bt.at (sG1 _ _ etG) (by simp [ntr, ntD])
        have en6 := bt.at (sG1 _ _ enG) (by simp [nrn.symm, nnD])
        have ep6 := bt.at (sG1 _ _ epG) (by simp [nrr.symm, npD])
        have nD0 : H D = none := (sG.trans sG1).free nD
        have s6 : Same H H6 := ButL.same (sG.trans sG1) (fun z hz => by
          rcases List.mem_cons.mp hz with e | hz
          · rw [e]; exact nrd0
          · rw [List.mem_singleton.mp hz]; exact nD0) bt
        have hb6 := s6 _ _ hb
        have keyOf : KeyOf ts (Sum.inr nm' :: numK ks) (.tuple (.str nm' :: es)) := ⟨nm', es, ks, rfl, rfl, akb⟩
        -- number = table.setdefault(..)
        refine ⟨fun σ' H' => ∃ (ts' : List PyData) (kvs' : List (List Key × V)) (n : Nat) (y7' : Option V), σ' = [some (.ref a), some (.ref t), some (.ref rd), some (.ref nm), some (.ref b), some (.ref D), some (.int (n : Int)), y7'] ∧ Same H H' ∧ H' rp = some (.lst ws.reverse) ∧ H' t = some (.dT kvs') ∧ Tab ts' kvs' ∧ ts'.length ≤ i + 1 ∧ (∃ u, ts' = ts ++ u) ∧ ts'[n]? = some (.tuple (.str nm' :: es)) ∧ H' rd = some (.lst (numV ra)) ∧ H' nm = some (.lst (numV ms)), ?_, ?_⟩
        · refine ⟨_, rfl, t, rfl, .inr ⟨kvs, .inl et6⟩, _, rfl, b, _, 0, _, rfl, rfl, SqT.of hb6, atI_nat (j := 0) rfl, _, rfl, D, _, rfl, .inr (.inl (.inl eD)), ?_, fun q nq => ?_⟩
          · simp only [List.append_nil, List.length_cons, numV, List.length_map]
            exact Nat.le_of_lt (small1000 (by omega))
          · have et7 := same_put (o := .tup (V.str nm' :: (numV ks ++ []))) nq _ _ et6
            have er7 := same_put (o := .tup (V.str nm' :: (numV ks ++ []))) nq _ _ e6
            have en7 := same_put (o := .tup (V.str nm' :: (numV ks ++ []))) nq _ _ en6
            have ep7 := same_put (o := .tup (V.str nm' :: (numV ks ++ []))) nq _ _ ep6
            have s7 := s6.trans (same_put (o := .tup (V.str nm' :: (numV ks ++ []))) nq)
            have eq7 : (upd H6 q (.tup (V.str nm' :: (numV ks ++ [])))) q = some (.tup ((Sum.inr nm' :: numK ks : List Key).map kV)) := by rw [upd_same, keyV, List.append_nil]
            generalize upd H6 q (.tup (V.str nm' :: (numV ks ++ []))) = H7 at et7 er7 en7 ep7 s7 eq7 ⊢
            refine ⟨_, rfl, t, kvs, rfl, et7, kvs, _, q, et7, rfl, eq7, big5 (by rw [tab.len]; omega), fun v hv => ?_, fun hv => ?_⟩
            · obtain ⟨n, rfl, hn⟩ := tab.hit keyOf hv
              exact ⟨ts, kvs, n, _, rfl, s7, ep7, et7, tab, by omega, ⟨[], (List.append_nil _).symm⟩, hn, er7, en7⟩
            · refine ⟨ts ++ [.tuple (.str nm' :: es)], kvs ++ [(Sum.inr nm' :: numK ks, .int (ts.length : Int))], ts.length, _, by rw [tab.len]; rfl, fun z o hz => ?_, by rw [upd_ne ntp.symm]; exact ep7, ?_, tab.miss keyOf hv, by rw [List.length_append, List.length_singleton]; omega, ⟨_, rfl⟩, by simp, by rw [upd_ne ntr.symm]; exact er7, by rw [upd_ne ntn.symm]; exact en7⟩
              · rw [upd_ne (ne_of_none hz nt)]
                exact s7 z o hz
              · rw [upd_same, putK_new _ hv, tab.len]
        · rintro σ' H7 ⟨ts', kvs', n, y7', rfl, s7, ep7, et7, tab', lts', ⟨u, eu⟩, hn, er7, en7⟩
          have lms := ams.len
          rw [List.length_reverse, List.length_drop] at lms
          have lst : (stk st0 ((preAll st0).length - i)).length ≤ 100000 := by
            have := len_pre (stk st0 ((preAll st0).length - i))
            rw [stk_drop hf, List.length_drop] at this
            omega
          rw [ek1, List.length_append] at lst
          refine ⟨_, rfl, .inl ⟨rfl, _, .inl (.inl er7)⟩, _, rfl, rd, _, .int (n : Int), rfl, rfl, er7, big5 (by rw [numV, List.length_map]; omega), ?_⟩
          have en8 : (upd H7 rd (.lst (numV ra ++ [V.int (n : Int)]))) nm = some (.lst (numV ms)) := by
            rw [upd_ne nrn.symm]
            exact en7
          refine ⟨_, rfl, .inl ⟨rfl, _, .inl (.inl en8)⟩, _, rfl, nm, _, .int (n : Int), rfl, rfl, en8, big5 (by rw [numV, List.length_map]; omega), ?_⟩
          refine ⟨⟨_, _, _, _, rfl⟩, fun z o hz => ?_, ?_, ts', kvs', ra ++ [n], ms ++ [n], ?_, tab', lts', ?_, ?_, ?_, ?_⟩
          · rw [upd_ne (ne_of_none hz nnm0), upd_ne (ne_of_none hz nrd0)]
            exact s7 z o hz
          · rw [upd_ne nnp.symm, upd_ne nrr.symm]
            exact ep7
          · rw [upd_ne ntn, upd_ne ntr]
            exact et7
          · rw [upd_ne nrn, upd_same]
            simp [numV]
          · rw [en1, ek, List.reverse_cons, eu]
            rw [eu] at hn
            exact (ara.grow u).app ⟨hn, True.intro⟩
          · rw [upd_same]
            simp [numV]
          · rw [en1, ed, List.reverse_cons, eu]
            rw [eu] at hn
            exact (ams.grow u).app ⟨hn, True.intro⟩
    · rintro σ G ⟨⟨y4, y5, y6, y7, rfl⟩, sG, epG, ts, kvs, rs, ms, etG, tab, lts, erG, ars, enG, ams⟩
      have eN : (preAll st0).length - ws.reverse.length = 0 := by rw [List.length_reverse, lw]; omega
      rw [eN, List.drop_zero] at ams
      refine ⟨_, rfl, nm, _, rfl, .inl (.inl enG), fun l1 n1 => ?_⟩
      have sl1 := same_put (o := .lst (numV ms).reverse) n1
      refine ⟨_, rfl, t, kvs, rfl, .inl (sl1 _ _ etG), fun l2 bs n2 ik => ?_⟩
      have sl2 := same_put (o := .lst (bs.map V.ref)) n2
      have n12 : l1 ≠ l2 := ne_of_none upd_same n2
      refine ⟨by show 2 ≤ sizeLine; decide, fun p np => ?_⟩
      have sp := same_put (o := .tup [V.ref l1, V.ref l2]) np
      refine q p l1 l2 _ ts ms.reverse kvs bs (sG.trans (sl1.trans (sl2.trans sp))) upd_same (sp _ _ (sl2 _ _ ?_)) ?_ tab (sp _ _ upd_same) (isKeys_up (sl2.trans sp) ik)
      · rw [upd_same, numV, numV, List.map_reverse]
      · have := ams.rev
        rwa [List.reverse_reverse] at this
end
end K12
/-! Terms replaced, terms with other names. -/
namespace K12
open PySem PySem.Spec PyProof.Rows L2 Kx
mutual
theorem eqv_eq : ∀ (d o : PyData), formedD d = true → PyData.eqv d o = true → d = o
  | .tuple (.str x :: ds), .tuple (.str y :: es), h, e => by
    simp only [PyData.eqv, PyData.eqvAll, Bool.and_eq_true, beq_iff_eq] at e
    rw [formedD, Bool.and_eq_true] at h
    rw [e.1, eqv_all ds es h.2 e.2]
  | .tuple (.str x :: ds), .tuple [], h, e => by simp [PyData.eqv, PyData.eqvAll] at e
  | .tuple (.str x :: ds), .tuple (.none :: es), h, e => by simp [PyData.eqv, PyData.eqvAll] at e
  | .tuple (.str x :: ds), .tuple (.bool _ :: es), h, e => by simp [PyData.eqv, PyData.eqvAll] at e
  | .tuple (.str x :: ds), .tuple (.int _ :: es), h, e => by simp [PyData.eqv, PyData.eqvAll] at e
  | .tuple (.str x :: ds), .tuple (.list _ :: es), h, e => by simp [PyData.eqv, PyData.eqvAll] at e
  | .tuple (.str x :: ds), .tuple (.tuple _ :: es), h, e => by simp [PyData.eqv, PyData.eqvAll] at e
  | .tuple (.str x :: ds), .tuple (.dict _ :: es), h, e => by simp [PyData.eqv, PyData.eqvAll] at e
  | .tuple (.str x :: ds), .none, h, e => by simp [PyData.eqv] at e
  | .tuple (.str x :: ds), .bool _, h, e => by simp [PyData.eqv] at e
  | .tuple (.str x :: ds), .int _, h, e => by simp [PyData.eqv] at e
  | .tuple (.str x :: ds), .str _, h, e => by simp [PyData.eqv] at e
  | .tuple (.str x :: ds), .list _, h, e => by simp [PyData.eqv] at e
  | .tuple (.str x :: ds), .dict _, h, e => by simp [PyData.eqv] at e
  | .tuple (.none :: ds), _, h, e => by simp [formedD, nameD] at h
  | .tuple (.bool _ :: ds), _, h, e => by simp [formedD, nameD] at h
  | .tuple (.int _ :: ds), _, h, e => by simp [formedD, nameD] at h
  | .tuple (.list _ :: ds), _, h, e => by simp [formedD, nameD] at h
  | .tuple (.tuple _ :: ds), _, h, e => by simp [formedD, nameD] at h
  | .tuple (.dict _ :: ds), _, h, e => by simp [formedD, nameD] at h
  | .tuple [], _, h, e => by simp [formedD] at h
  | .none, _, h, e => by simp [formedD] at h
  | .bool _, _, h, e => by simp [formedD] at h
  | .int _, _, h, e => by simp [formedD] at h
  | .str _, _, h, e => by simp [formedD] at h
  | .list _, _, h, e => by simp [formedD] at h
  | .dict _, _, h, e => by simp [formedD] at h
theorem eqv_all : ∀ (ds es : List PyData), formedAll ds = true → PyData.eqvAll ds es = true → ds = es
  | [], [], _, _ => rfl
  | [], _ :: _, _, e => by simp [PyData.eqvAll] at e
  | _ :: _, [], _, e => by simp [PyData.eqvAll] at e
  | d :: ds, e :: es, h, g => by
    rw [formedAll, Bool.and_eq_true] at h
    rw [PyData.eqvAll, Bool.and_eq_true] at g
    rw [eqv_eq d e h.1 g.1, eqv_all ds es h.2 g.2]
end
mutual
theorem eqv_self : ∀ (d : PyData), formedD d = true → PyData.eqv d d = true
  | .tuple (.str x :: ds), h => by
    rw [formedD, Bool.and_eq_true] at h
    simp only [PyData.eqv, PyData.eqvAll, Bool.and_eq_true, beq_iff_eq]
    exact ⟨trivial, eqv_selfs ds h.2⟩
  | .tuple (.none :: ds), h => by simp [formedD, nameD] at h
  | .tuple (.bool _ :: ds), h => by simp [formedD, nameD] at h
  | .tuple (.int _ :: ds), h => by simp [formedD, nameD] at h
  | .tuple (.list _ :: ds), h => by simp [formedD, nameD] at h
  | .tuple (.tuple _ :: ds), h => by simp [formedD, nameD] at h
  | .tuple (.dict _ :: ds), h => by simp [formedD, nameD] at h
  | .tuple [], h => by simp [formedD] at h
  | .none, h => by simp [formedD] at h
  | .bool _, h => by simp [formedD] at h
  | .int _, h => by simp [formedD] at h
  | .str _, h => by simp [formedD] at h
  | .list _, h => by simp [formedD] at h
  | .dict _, h => by simp [formedD] at h
theorem eqv_selfs : ∀ (ds : List PyData), formedAll ds = true → PyData.eqvAll ds ds = true
  | [], _ => by simp [PyData.eqvAll]
  | d :: ds, h => by
    rw [formedAll, Bool.and_eq_true] at h
    rw [PyData.eqvAll, eqv_self d h.1, eqv_selfs ds h.2]
    rfl
end
theorem eqv_iff {d o : PyData} (h : formedD d = true) : PyData.eqv d o = true ↔ d = o :=
  ⟨eqv_eq d o h, fun e => by rw [← e]; exact eqv_self d h⟩
mutual
/-- n in the place of o -/
def putD (o n : PyData) : PyData → PyData
  | .tuple (x :: ds) => if PyData.eqv (.tuple (x :: ds)) o = true then n else .tuple (x :: putAll o n ds)
  | d => if PyData.eqv d o = true then n else d
def putAll (o n : PyData) : List PyData → List PyData
  | [] => []
  | d :: ds => putD o n d :: putAll o n ds
end
theorem putAll_map (o n : PyData) : ∀ ds : List PyData, putAll o n ds = ds.map (putD o n)
  | [] => rfl
  | d :: ds => by rw [putAll, putAll_map o n ds, List.map_cons]
mutual
/-- other names -/
def renD (f : Str → Str) : PyData → PyData
  | .tuple (x :: ds) => .tuple ((match x with | .str z => .str (f z) | c => c) :: renAll f ds)
  | d => d
def renAll (f : Str → Str) : List PyData → List PyData
  | [] => []
  | d :: ds => renD f d :: renAll f ds
end
theorem renAll_map (f : Str → Str) : ∀ ds : List PyData, renAll f ds = ds.map (renD f)
  | [] => rfl
  | d :: ds => by rw [renAll, renAll_map f ds, List.map_cons]
mutual
theorem put_formed (o n : PyData) (hn : formedD n = true) : ∀ d : PyData, formedD d = true → formedD (putD o n d) = true
  | .tuple (x :: ds), h => by
    rw [putD]
    split
    · exact hn
    · rw [formedD, Bool.and_eq_true] at h ⊢
      refine ⟨?_, put_formeds o n hn ds h.2⟩
      rw [putAll_map, List.length_map]
      exact h.1
  | .tuple [], h => by cases h
  | .none, h => by cases h
  | .bool _, h => by cases h
  | .int _, h => by cases h
  | .str _, h => by cases h
  | .list _, h => by cases h
  | .dict _, h => by cases h
theorem put_formeds (o n : PyData) (hn : formedD n = true) : ∀ ds : List PyData, formedAll ds = true → formedAll (putAll o n ds) = true
  | [], _ => rfl
  | d :: ds, h => by
    rw [formedAll, Bool.and_eq_true] at h
    rw [putAll, formedAll, put_formed o n hn d h.1, put_formeds o n hn ds h.2]
    rfl
end
mutual
theorem ren_formed (f : Str → Str) (hf : ∀ x, isNm x = true → isNm (f x) = true) : ∀ d : PyData, formedD d = true → formedD (renD f d) = true
  | .tuple (.str x :: ds), h => by
    simp only [renD, formedD, Bool.and_eq_true, nameD] at h ⊢
    refine ⟨⟨?_, hf x h.1.2⟩, ren_formeds f hf ds h.2⟩
    rw [renAll_map, List.length_map]
    exact h.1.1
  | .tuple (.none :: ds), h => by simp [formedD, nameD] at h
  | .tuple (.bool _ :: ds), h => by simp [formedD, nameD] at h
  | .tuple (.int _ :: ds), h => by simp [formedD, nameD] at h
  | .tuple (.list _ :: ds), h => by simp [formedD, nameD] at h
  | .tuple (.tuple _ :: ds), h => by simp [formedD, nameD] at h
  | .tuple (.dict _ :: ds), h => by simp [formedD, nameD] at h
  | .tuple [], h => by cases h
  | .none, h => by cases h
  | .bool _, h => by cases h
  | .int _, h => by cases h
  | .str _, h => by cases h
  | .list _, h => by cases h
  | .dict _, h => by cases h
theorem ren_formeds (f : Str → Str) (hf : ∀ x, isNm x = true → isNm (f x) = true) : ∀ ds : List PyData, formedAll ds = true → formedAll (renAll f ds) = true
  | [], _ => rfl
  | d :: ds, h => by
    rw [formedAll, Bool.and_eq_true] at h
    rw [renAll, formedAll, ren_formed f hf d h.1, ren_formeds f hf ds h.2]
    rfl
end
end K12
/-! numbered, put_in. -/
namespace K12
open PySem PySem.Spec PyProof.Rows L2 Kx
theorem AtAll.get {ts : List PyData} : ∀ {is : List Nat} {es : List PyData} {k : Nat} {t : PyData}, AtAll ts is es → es[k]? = some t → ∃ i, is[k]? = some i ∧ ts[i]? = some t
  | i :: is, e :: es, 0, t, h, g => by
    rw [List.getElem?_cons_zero] at g
    rw [← Option.some.inj g]
    exact ⟨i, rfl, h.1⟩
  | i :: is, e :: es, k + 1, t, h, g => by
    obtain ⟨j, h1, h2⟩ := AtAll.get (k := k) h.2 (by simpa using g)
    exact ⟨j, by simpa using h1, h2⟩
  | [], [], k, t, _, g => by simp at g
  | [], _ :: _, _, _, h, _ => h.elim
  | _ :: _, [], _, _, h, _ => h.elim
theorem DxAll.split {K : PySem.W.Frag} {H : Hp} : ∀ {ds : List PyData} {vs : List V} {es : List PyData}, DxAll K H vs (ds ++ es) → ∃ a b, vs = a ++ b ∧ DxAll K H a ds ∧ DxAll K H b es
  | [], vs, es, h => ⟨[], vs, rfl, .nil, h⟩
  | d :: ds, _, es, .cons h t => by
    obtain ⟨a, b, rfl, h1, h2⟩ := DxAll.split t
    exact ⟨_ :: a, b, rfl, .cons h h1, h2⟩
theorem numV_get {is : List Nat} {k i : Nat} (h : is[k]? = some i) : (numV is)[k]? = some (V.int (i : Int)) := by
  rw [numV, List.getElem?_map, h]
  rfl
section
variable {P : Program} {w : World} {K : PySem.W.Frag} {mg : Str → Option Value} {base : Heap}
def spNums (K : PySem.W.Frag) : Sp := fun vs H Q _ => ∃ (a : Addr) (ws : List V) (st : List PyData), vs = [.ref a] ∧ SqL K H a ws ∧ DxAll K H ws (preAll st) ∧ formedAll st = true ∧ (preAll st).length ≤ 100000 ∧
  ∀ nl H' ts is, Same H H' → H' nl = some (.lst (numV is)) → AtAll ts is (preAll st) → ts.Nodup → Q (.ref nl) H'
theorem ok_nums (T : Tx K mg) : FnOk P w K mg base CX0 2 T.anumbered T.dnumbered ["parts"] (spNums K) := by
  have nd := sc_numbered.nd
  have G := ok_rows (P := P) (w := w) (base := base) T
  refine T.fnumbered.ok sc_numbered (fun vs H Q E h => ?_) (fun cdv A outer s H vs Q E hr h => ?_)
  · obtain ⟨a, ws, st, rfl, _⟩ := h
    rfl
  · obtain ⟨a, ws, st0, rfl, ha, hx, hf, bd, q⟩ := h
    refine ⟨_, (pss_one (ps_ret (pe_ix ix_tup (pe_call G (hr.mono (by omega)) (by rfl) T.gnumbered_rows T.fnumbered_rows.kp T.nnumbered_rows .nil pass0 (pa_cons (pv 0) pa_nil)) pe_int (fun _ _ => rfl)))), ?_⟩
    exact ⟨_, rfl, a, ws, st0, rfl, ha, hx, hf, bd, fun p nl tl H' ts is kvs bs s e1 e2 at_ tab _ _ => ⟨p, _, 0, _, rfl, rfl, SqT.of e1, atI_nat (j := 0) rfl, q nl H' ts is s e2 at_ tab.nodup⟩⟩
def spPut (K : PySem.W.Frag) : Sp := fun vs H Q _ => ∃ (x o n : V) (d e c : PyData), vs = [x, o, n] ∧ Dx K H x d ∧ Dx K H o e ∧ Dx K H n c ∧ formedD d = true ∧ formedD e = true ∧ (preD d).length + (preD e).length ≤ 100000 ∧
  ∀ v H', Same H H' → Dx K H' v (putD e c d) → Q v H'
theorem ok_put (T : Tx K mg) : FnOk P w K mg base CX0 3 T.aput_in T.dput_in ["term", "old", "new"] (spPut K) := by
  have nd := sc_put_in.nd
  have G1 := ok_pre (P := P) (w := w) (base := base) T
  have G2 := ok_nums (P := P) (w := w) (base := base) T
  refine T.fput_in.ok sc_put_in (fun vs H Q E h => ?_) (fun cdv A outer s H vs Q E hr h => ?_)
  · obtain ⟨x, o, n, d, e, c, rfl, _⟩ := h
    rfl
  · obtain ⟨x, o, n, d, e, c, rfl, hx, ho, hn, fd, fe, bd, q⟩ := h
    refine ⟨_, (pss_cons (ps_set (i := 3) nd rfl (.inl rfl) (pe_callB call_len_seq (by rfl) T.b_len (by decide +kernel) (pa_cons (pe_call G1 (hr.mono (by omega)) (by rfl) T.gpreorder T.fpreorder.kp T.npreorder .nil pass0 (pa_cons (pe_lst (pa_cons (pv 1) pa_nil)) pa_nil)) pa_nil)))
      (pss_cons (ps_set (i := 4) nd rfl (.inl rfl) (pe_call G1 (hr.mono (by omega)) (by rfl) T.gpreorder T.fpreorder.kp T.npreorder .nil pass0 (pa_cons (pe_lst (pa_cons (pv 1) (pa_cons (pv 0) pa_nil))) pa_nil)))
      (pss_cons (ps_set (i := 5) nd rfl (.inl rfl) (pe_call G2 (hr.mono (by omega)) (by rfl) T.gnumbered T.fnumbered.kp T.nnumbered .nil pass0 (pa_cons (pv 4) pa_nil)))
      (pss_cons (ps_set (i := 6) nd rfl (.inr rfl) (pe_lst pa_nil))
      (pss_cons (ps_for PassesOwn.never rfl (pi_range3 (by rfl) T.b_range (pa_cons (pe_op op_sub (pe_callB call_len_seq (by rfl) T.b_len (by decide +kernel) (pa_cons (pv 4) pa_nil)) pe_int) (pa_cons (pe_op op_sub (pv 3) pe_int) (pa_cons (pe_un un_neg pe_int) pa_nil)))) (pg_name (i := 7) nd rfl (.inl rfl)) (pss_cons (ps_setLc (i := 8) (own := [("_", 9)]) (g := (gName 9)) (tt := tYes) (te := tBM0 K "list" rPop (tVar 6)) (by rfl) nd rfl rfl (sw_true rfl rfl rfl (by decide +kernel)) (pi_tup (pe_slice sl_tupA (pe_ix ix_list (pv 4) (pv 7) (fun _ _ => rfl)) (po_some pe_int) po_none)) (blkOk_by (own := [("_", 9)]) (N := N_put_in) (sc := defScope s_put_in) (by decide +kernel)) (fun _ _ _ _ _ => pg_name (i := 9) nd rfl (.inl rfl)) (fun _ _ _ _ _ => pts_nil) (fun _ _ _ _ _ => (pe_bm0 PySem.F.plainAttrs_list PySem.F.slot_list_pop PySem.F.type_list_pop mt_pop (pv 6))))
      (pss_one (ps_if (pt_cmpR op_eq (pe_ix ix_list (pv 5) (pv 7) (fun _ _ => rfl)) (pe_ix ix_list (pv 5) pe_int (fun _ _ => rfl)) (nomark _)) (pss_one (ps_expr (pe_bm PySem.F.plainAttrs_list PySem.F.slot_list_append PySem.F.type_list_append mt_append (pv 6) (pa_cons (pv 2) pa_nil)))) (pss_one (ps_expr (pe_bm PySem.F.plainAttrs_list PySem.F.slot_list_append PySem.F.type_list_append mt_append (pv 6) (pa_cons (pe_tup (pa_cons (pe_ix ix_tup (pe_ix ix_list (pv 4) (pv 7) (fun _ _ => rfl)) pe_int (fun _ _ => rfl)) (StX.pa_star (pv 8) pa_nil))) pa_nil))))))))
      (pss_one (ps_ret (pe_ix ix_list (pv 6) pe_int (fun _ _ => rfl))))))))), ?_⟩
    have eP1 : preAll [e] = preD e := by simp [preAll]
    have eP2 : preAll [e, d] = preD e ++ preD d := by simp [preAll]
    have f2 : formedAll [e, d] = true := by simp [formedAll, fe, fd]
    have lN : (preAll [e, d]).length = (preD e).length + (preD d).length := by rw [eP2, List.length_append]
    -- many
    refine ⟨_, rfl, (by show 1 ≤ sizeLine; decide), fun l1 n1 => ?_⟩
    have s1 := same_put (o := .lst [o]) n1
    refine ⟨l1, [o], [e], H, rfl, .inl (.inl upd_same), s1, .cons ho .nil, by simp [formedAll, fe], by rw [eP1]; omega, fun p1 H1 us1 sA np1 ep1 du1 => ⟨p1, us1, rfl, .inl (.inl (.inl ep1)), ?_⟩⟩
    have lu1 := du1.length
    rw [eP1] at lu1
    rw [lu1]
    have s2 := s1.trans sA
    -- parts
    refine ⟨_, rfl, _, rfl, (by show 2 ≤ sizeLine; decide), fun l2 n2 => ?_⟩
    have s3 := s2.trans (same_put (o := .lst [o, x]) n2)
    refine ⟨l2, [o, x], [e, d], H, rfl, .inl (.inl upd_same), s3, .cons ho (.cons hx .nil), f2, by rw [lN]; omega, fun pp H2 us2 sB npp epp du2 => ?_⟩
    have s4 := s3.trans sB
    have du2 := du2.up s4
    have lu2 := du2.length
    -- numbers
    refine ⟨_, rfl, pp, us2, [e, d], rfl, .inl (.inl epp), du2, f2, by rw [lN]; omega, fun nl H3 ts is sC enl at_ ndt => ?_⟩
    have s5 := s4.trans sC
    have epp3 := sC _ _ epp
    have du3 := du2.up sC
    have lis := at_.len
    -- ready
    refine ⟨Nat.zero_le _, fun rd nrd => ?_⟩
    have nrd0 := s5.free nrd
    have s6 := s5.trans (same_put (o := .lst []) nrd)
    have epp4 := same_put (o := .lst []) nrd _ _ epp3
    have enl4 := same_put (o := .lst []) nrd _ _ enl
    have er4 : (upd H3 rd (.lst [])) rd = some (.lst []) := upd_same
    have npr : pp ≠ rd := ne_of_none epp3 nrd
    have nnr : nl ≠ rd := ne_of_none enl nrd
    have sO : Same H3 (OffS [rd] (upd H3 rd (.lst []))) := same_offs (same_put nrd) (fun b hb => by rw [List.mem_singleton.mp hb]; exact nrd)
    generalize upd H3 rd (.lst []) = H4 at s6 epp4 enl4 er4 sO ⊢
    have du4 := du3.up sO
    have hn4 := (hn.up s5).up sO
    have rg : RgC ((us2.length : Int) - 1) (((preD e).length : Int) - 1) (-1) (preD d).length := by
      have z := RgC.neg (i := (us2.length : Int) - 1) (j := ((preD e).length : Int) - 1) (by omega) (by omega) (by omega) (by omega)
      rwa [show ((us2.length : Int) - 1 - (((preD e).length : Int) - 1)).toNat = (preD d).length by omega] at z
    have hend : stk [e, d] (preD e).length = [d] := stk_first fe (by simp [formedAll, fd])
    have one : ∀ b, b ∈ [rd] → H b = none := fun b hb => by rw [List.mem_singleton.mp hb]; exact nrd0
    refine ⟨_, rfl, pp, us2, rfl, .inl (.inl (.inl epp4)), _, 1, rfl, rfl, _, rfl, _, 1, rfl, rfl, 1, rfl, _, _, _, _, rfl, rg, for_rangeC (fun t σ G => (∃ y7 y8 y9, σ = [some x, some o, some n, some (.int ((preD e).length : Nat)), some (.ref pp), some (.ref nl), some (.ref rd), y7, y8, y9]) ∧ ButL [rd] H4 G ∧
        ∃ rs : List V, G rd = some (.lst rs) ∧ DxAll K (OffS [rd] G) rs ((stk [e, d] (us2.length - t)).map (putD e c)).reverse)
      ⟨⟨_, _, _, rfl⟩, ButL.refl, [], er4, ?_⟩ ?_ ?_⟩
    · rw [Nat.sub_zero, stk_end f2 (by omega)]
      exact .nil
    · rintro t σ G ht ⟨⟨y7, y8, y9, rfl⟩, bG, rs, erG, drs⟩
      have hk : us2.length - 1 - t < us2.length := by omega
      have hk2 : us2.length - 1 - t < (preAll [e, d]).length := by omega
      have sG : Same H G := ButL.same s6 one bG
      have eppG := bG.at epp4 (by simp [npr])
      have enlG := bG.at enl4 (by simp [nnr])
      have so : Same (OffS [rd] H4) (OffS [rd] G) := offs_but bG (fun b h1 h2 => absurd h1 h2)
      obtain ⟨v, hv, dv⟩ := du4.get (at_of hk2)
      obtain ⟨r, ek, fp, fr, ek1⟩ := stk_at f2 (at_of hk2)
      obtain ⟨i, hi, ti⟩ := at_.get (at_of hk2)
      obtain ⟨i0, hi0, ti0⟩ := at_.get (k := 0) (t := e) (by rw [eP2, preD_eq fe]; rfl)
      have en1 : us2.length - t = us2.length - 1 - t + 1 := by omega
      have en2 : us2.length - (t + 1) = us2.length - 1 - t := by omega
      rw [en1, ek1] at drs
      rw [en2, ek]
      generalize (preAll [e, d])[us2.length - 1 - t] = p at dv ek fp ek1 ti drs ⊢
      obtain ⟨nm, es, rfl, l3, hnm, hfa⟩ := formed_shape fp
      rw [show kidsD (.tuple (.str nm :: es)) = es from rfl, List.map_append, List.reverse_append] at drs
      obtain ⟨ra, rb, rfl, dra, drb⟩ := DxAll.split drs
      obtain ⟨zs, rfl⟩ : ∃ zs, rb = zs.reverse := ⟨rb.reverse, (List.reverse_reverse _).symm⟩
      have dzs := dxr drb
      rw [List.reverse_reverse, List.reverse_reverse] at dzs
      have lzs := dzs.length
      rw [List.length_map] at lzs
      have lra := dra.length
      rw [List.length_reverse, List.length_map] at lra
      have lst : r.length ≤ 100000 := by
        have z := len_pre (stk [e, d] (us2.length - 1 - t))
        rw [stk_drop f2, List.length_drop, ek, List.length_cons] at z
        omega
      have dvG := dv.up so
      have dv' := dvG
      cases dv' with
      | @tup b xs _ hb hs =>
      cases hs with
      | @cons v0 vr _ _ h0 hws =>
      cases h0
      have hbG : G b = some (.tup (.str nm :: vr)) := OffS.all _ _ hb
      rw [show ((us2.length : Int) - 1 + ((t : Nat) : Int) * -1) = ((us2.length - 1 - t : Nat) : Int) by omega]
      refine ⟨_, rfl, _, rfl, pp, us2, _, _, rfl, rfl, .inl (.inl eppG), atI_nat (j := us2.length - 1 - t) hv, 1, rfl, ?_⟩
      dsimp only [tNoPart]
      refine sl_from (S := []) (i := 1) ((dvG.up OffS.all).up offs_nil) olds_nil fun y G1 sG1 dy => ?_
      have dy := dy.up OffS.all
      rw [List.drop_one, List.tail_cons] at dy
      cases dy with
      | @tup cc us _ hc hus =>
      have lus := hus.length
      have erG1 := sG1 _ _ erG
      have so1 : Same (OffS [rd] G) (OffS [rd] G1) := OffS.same sG1
      refine ⟨cc, rfl, ⟨_, SqT.of hc⟩, fun D nD => ?_⟩
      have nrD : rd ≠ D := ne_of_none erG1 nD
      have ncD : cc ≠ D := ne_of_none hc nD
      have ncr : cc ≠ rd := fun z => by
        rw [z, erG1] at hc
        cases hc
      refine lc_tup (K := K) (a := cc) (xs := us) (fun j H6 => ButL [rd, D] G1 H6 ∧ H6 rd = some (.lst (ra ++ (zs.drop j).reverse)) ∧ H6 D = some (.lst (zs.take j)))
        ⟨ButL.of (same_put nD), by rw [upd_ne nrD, List.drop_zero]; exact erG1, by rw [upd_same]; rfl⟩ (fun j H6 _ h => SqT.of (h.1.at hc (by simp [ncr, ncD]))) ?_ ?_
      · rintro j y H6 hj ⟨bt, e6, eD⟩
        have ltj : j < zs.length := by
          rw [lzs, ← lus]
          exact (List.getElem?_eq_some_iff.mp hj).1
        have e6' : H6 rd = some (.lst (ra ++ (zs.drop (j + 1)).reverse ++ [zs[j]])) := by
          rw [e6, drop_at (at_of ltj), List.reverse_cons, ← List.append_assoc]
        refine ⟨rfl, (iteT (B := False) ?_ : if true = true then _ else False)⟩
        refine ⟨_, rfl, .inl ⟨rfl, _, .inl (.inl e6')⟩, rd, _, zs[j], rfl, rfl, e6', by simp, ?_⟩
        rw [List.dropLast_concat]
        refine ⟨_, by rw [upd_ne nrD.symm]; exact eD, ?_, ?_, ?_, ?_⟩
        · rw [List.length_take]
          exact small1000 (by omega)
        · exact (bt.put (by simp)).put (by simp)
        · rw [upd_ne nrD, upd_same]
        · rw [upd_same, List.take_add_one, at_of ltj]
          rfl
      · rintro H6 ⟨bt, e6, eD⟩
        rw [lus, ← lzs, List.drop_length, List.reverse_nil, List.append_nil] at e6
        rw [lus, ← lzs, List.take_length] at eD
        have nD0 : H4 D = none := by
          cases z : H4 D with
          | none => rfl
          | some ob =>
            rw [sG1 _ _ (bG.at z (by simp [nrD.symm]))] at nD
            cases nD
        have epp6 := bt.at (sG1 _ _ eppG) (by simp [npr, ne_of_none (sG1 _ _ eppG) nD])
        have enl6 := bt.at (sG1 _ _ enlG) (by simp [nnr, ne_of_none (sG1 _ _ enlG) nD])
        have nbr : b ≠ rd := fun z => by
          rw [z, erG] at hbG
          cases hbG
        have hb6 := bt.at (sG1 _ _ hbG) (by simp [nbr, ne_of_none (sG1 _ _ hbG) nD])
        have so6 : Same (OffS [rd] G1) (OffS [rd] H6) := offs_but bt (fun b h1 h2 => by
          rcases List.mem_cons.mp h1 with z | h1
          · exact absurd (by rw [z]; exact List.mem_singleton_self _) h2
          · rw [List.mem_singleton.mp h1]; exact nD)
        have b6 : ButL [rd, D] H4 H6 := (bG.weak (by simp)).trans ((ButL.of sG1).trans bt)
        have dra6 := dra.up (so1.trans so6)
        have dzs6 := dzs.up (so1.trans so6)
        have hn6 := hn4.up (so.trans (so1.trans so6))
        have fin : ∀ (G' : Hp) (v : V) (σ' : L2.St), (∃ y7 y8 y9, σ' = [some x, some o, some n, some (.int ((preD e).length : Nat)), some (.ref pp), some (.ref nl), some (.ref rd), y7, y8, y9]) → Same H6 G' → Dx K (OffS [rd] G') v (putD e c (.tuple (.str nm :: es))) →
            (∃ y7 y8 y9, σ' = [some x, some o, some n, some (.int ((preD e).length : Nat)), some (.ref pp), some (.ref nl), some (.ref rd), y7, y8, y9]) ∧ ButL [rd] H4 (upd G' rd (.lst (ra ++ [v]))) ∧ ∃ rs : List V, (upd G' rd (.lst (ra ++ [v]))) rd = some (.lst rs) ∧ DxAll K (OffS [rd] (upd G' rd (.lst (ra ++ [v])))) rs (((.tuple (.str nm :: es)) :: r).map (putD e c)).reverse := fun G' v σ' hσ sG' dv => by
          have so7 : Same (OffS [rd] G') (OffS [rd] (upd G' rd (.lst (ra ++ [v])))) := offs_but (ButL.put ButL.refl (List.mem_singleton_self _)) (fun b h1 h2 => absurd h1 h2)
          refine ⟨hσ, fun bb ob hh nn => ?_, _, upd_same, ?_⟩
          · rw [upd_ne (fun z => nn (by rw [z]; exact List.mem_singleton_self _))]
            exact sG' _ _ (b6 bb ob hh (by
              intro z
              rcases List.mem_cons.mp z with z | z
              · exact nn (by rw [z]; exact List.mem_singleton_self _)
              · rw [List.mem_singleton.mp z, nD0] at hh
                cases hh))
          · rw [List.map_cons, List.reverse_cons]
            exact DxAll.append (dra6.up ((OffS.same sG').trans so7)) (.cons (dv.up so7) .nil)
        refine ⟨_, rfl, _, rfl, nl, _, _, _, rfl, rfl, .inl (.inl enl6), atI_nat (j := us2.length - 1 - t) (numV_get hi), _, rfl, nl, _, 0, _, rfl, rfl, .inl (.inl enl6), atI_nat (j := 0) (numV_get hi0), rfl, _, rfl, ite2 (fun e1 => ?_) (fun e1 => ?_)⟩
        · have z := V.int.inj (of_decide_eq_true e1)
          have eii : i = i0 := by omega
          have epe : PyData.tuple (.str nm :: es) = e := by
            rw [eii, ti0] at ti
            exact (Option.some.inj ti).symm
          refine ⟨_, rfl, .inl ⟨rfl, _, .inl (.inl e6)⟩, _, rfl, rd, ra, n, rfl, rfl, e6, big5 (by omega), ?_⟩
          refine fin H6 n _ ⟨_, _, _, rfl⟩ (Same.refl _) ?_
          rw [putD, if_pos ((eqv_iff fp).mpr epe)]
          exact hn6
        · have epe : ¬ PyData.tuple (.str nm :: es) = e := fun z => by
            rw [z] at ti
            rw [at_uniq ndt ti ti0] at e1
            simp at e1
          refine ⟨_, rfl, .inl ⟨rfl, _, .inl (.inl e6)⟩, _, rfl, _, rfl, pp, us2, _, _, rfl, rfl, .inl (.inl epp6), atI_nat (j := us2.length - 1 - t) hv, b, _, 0, _, rfl, rfl, SqT.of hb6, atI_nat (j := 0) rfl, _, rfl, D, _, rfl, .inr (.inl (.inl eD)), ?_, fun q1 nq => ?_⟩
          · simp only [List.append_nil, List.length_cons]
            exact Nat.le_of_lt (small1000 (by omega))
          · have sq := same_put (o := .tup (V.str nm :: (zs ++ []))) nq
            have e7 := sq _ _ e6
            have nqr : q1 ≠ rd := fun z => by
              rw [z, e6] at nq
              cases nq
            refine ⟨rd, ra, _, rfl, rfl, e7, big5 (by omega), ?_⟩
            refine fin _ _ _ ⟨_, _, _, rfl⟩ sq ?_
            rw [putD, if_neg (fun z => epe ((eqv_iff fp).mp z)), putAll_map]
            have dzq := dzs6.up (OffS.same sq)
            rw [List.append_nil] at dzq ⊢
            exact .tup (OffS.out (by simp [nqr]) upd_same) (.cons (.str nm) dzq)
    · rintro σ G ⟨⟨y7, y8, y9, rfl⟩, bG, rs, erG, drs⟩
      rw [show us2.length - (preD d).length = (preD e).length by omega, hend] at drs
      cases drs with
      | @cons v _ _ _ dv drs =>
      cases drs
      exact ⟨_, rfl, rd, _, 0, v, rfl, rfl, .inl (.inl erG), atI_nat (j := 0) rfl, q v G (ButL.same s6 one bG) (dv.up OffS.all)⟩
end
end K12
/-! with_names. -/
namespace K12
open PySem PySem.Spec PyProof.Rows L2 Kx
def strD (m : List (Str × Str)) : List (Key × V) := m.map fun p => (Sum.inr p.1, V.str p.2)
def look (m : List (Str × Str)) (x : Str) : Option Str := (m.find? fun p => decide (p.1 = x)).map Prod.snd
def nmOf (m : List (Str × Str)) (x : Str) : Str := (look m x).getD x
theorem val_strD (x : Str) : ∀ m : List (Str × Str), valV (strD m) (Sum.inr x) = (look m x).map V.str
  | [] => rfl
  | p :: m => by
    by_cases e : p.1 = x
    · rw [show strD (p :: m) = (Sum.inr p.1, V.str p.2) :: strD m from rfl, valV_pos (by rw [e]), look, List.find?_cons_of_pos (by simp [e])]
      rfl
    · rw [show strD (p :: m) = (Sum.inr p.1, V.str p.2) :: strD m from rfl, valV_neg (fun z => e (Sum.inr.inj z)), val_strD x m, look, look, List.find?_cons_of_neg (by simp [e])]
theorem look_getD (m : List (Str × Str)) (x : Str) : ((look m x).map V.str).getD (V.str x) = V.str (nmOf m x) := by
  unfold nmOf
  cases look m x <;> rfl
theorem rd_up {H H' : Hp} {a : Addr} {u : HO} (s : Same H H') (h : Rd H a u) : Rd H' a u := by
  rcases h with h | ⟨o, h⟩
  · exact .inl (s _ _ h)
  · exact .inr ⟨o, s _ _ h⟩
section
variable {P : Program} {w : World} {K : PySem.W.Frag} {mg : Str → Option Value} {base : Heap}
def spWith (K : PySem.W.Frag) : Sp := fun vs H Q _ => ∃ (x : V) (a : Addr) (d : PyData) (m : List (Str × Str)), vs = [x, .ref a] ∧ Dx K H x d ∧ Rd H a (.dK (strD m)) ∧ formedD d = true ∧ (preD d).length ≤ 100000 ∧
  ∀ v H', Same H H' → Dx K H' v (renD (nmOf m) d) → Q v H'
theorem ok_with (T : Tx K mg) : FnOk P w K mg base CX0 2 T.awith_names T.dwith_names ["term", "names"] (spWith K) := by
  have nd := sc_with_names.nd
  have G1 := ok_pre (P := P) (w := w) (base := base) T
  refine T.fwith_names.ok sc_with_names (fun vs H Q E h => ?_) (fun cdv A outer s H vs Q E hr h => ?_)
  · obtain ⟨x, a, d, m, rfl, _⟩ := h
    rfl
  · obtain ⟨x, a, d, m, rfl, hx, ha, fd, bd, q⟩ := h
    have hu := hu_of hr
    refine ⟨_, (pss_cons (ps_set (i := 2) nd rfl (.inr rfl) (pe_lst pa_nil))
      (pss_cons (ps_for PassesOwn.never rfl (pi_list (pe_revL (pe_call G1 (hr.mono (by omega)) (by rfl) T.gpreorder T.fpreorder.kp T.npreorder .nil pass0 (pa_cons (pe_lst (pa_cons (pv 0) pa_nil)) pa_nil)))) (pg_name (i := 3) nd rfl (.inl rfl)) (pss_cons (ps_setLc (i := 4) (own := [("_", 5)]) (g := (gName 5)) (tt := tYes) (te := tBM0 K "list" rPop (tVar 2)) (by rfl) nd rfl rfl (sw_true rfl rfl rfl (by decide +kernel)) (pi_tup (pe_slice sl_tupA (pv 3) (po_some pe_int) po_none)) (blkOk_by (own := [("_", 5)]) (N := N_with_names) (sc := defScope s_with_names) (by decide +kernel)) (fun _ _ _ _ _ => pg_name (i := 5) nd rfl (.inl rfl)) (fun _ _ _ _ _ => pts_nil) (fun _ _ _ _ _ => (pe_bm0 PySem.F.plainAttrs_list PySem.F.slot_list_pop PySem.F.type_list_pop mt_pop (pv 2))))
      (pss_one (ps_expr (pe_bm PySem.F.plainAttrs_list PySem.F.slot_list_append PySem.F.type_list_append mt_append (pv 2) (pa_cons (pe_tup (pa_cons (pe_dget2 hu (pv 1) (pe_ix ix_tup (pv 3) pe_int (fun _ _ => rfl)) (pe_ix ix_tup (pv 3) pe_int (fun _ _ => rfl)) ⟨by rfl, by rfl, by rfl, by rfl⟩) (StX.pa_star (pv 4) pa_nil))) pa_nil))))))
      (pss_one (ps_ret (pe_ix ix_list (pv 2) pe_int (fun _ _ => rfl)))))), ?_⟩
    have f1 : formedAll [d] = true := by simp [formedAll, fd]
    have eP : preAll [d] = preD d := by simp [preAll]
    refine ⟨Nat.zero_le _, fun rd nrd0 => ?_⟩
    have s1 := same_put (o := .lst []) nrd0
    have er1 : (upd H rd (.lst [])) rd = some (.lst []) := upd_same
    generalize upd H rd (.lst []) = H1 at s1 er1 ⊢
    refine ⟨_, rfl, (by show 1 ≤ sizeLine; decide), fun l1 n1 => ?_⟩
    have s2 := s1.trans (same_put (o := .lst [x]) n1)
    have er2 := same_put (o := .lst [x]) n1 _ _ er1
    refine ⟨l1, [x], [d], H, rfl, .inl (.inl upd_same), s2, .cons hx .nil, f1, by rw [eP]; exact bd, fun pp H2 us sA npp epp du => ⟨pp, us, rfl, .inl (.inl epp), fun rp nrp => ?_⟩⟩
    have s3 := s2.trans sA
    have er3 := sA _ _ er2
    have lu := du.length
    have s4 := s3.trans (same_put (o := .lst us.reverse) nrp)
    have er4 := same_put (o := .lst us.reverse) nrp _ _ er3
    have nrr : rd ≠ rp := ne_of_none er3 nrp
    have ep4 : (upd H2 rp (.lst us.reverse)) rp = some (.lst us.reverse) := upd_same
    generalize upd H2 rp (.lst us.reverse) = H4 at s4 er4 ep4 ⊢
    have one : ∀ b, b ∈ [rd] → H b = none := fun b hb => by rw [List.mem_singleton.mp hb]; exact nrd0
    have sO : Same H (OffS [rd] H4) := same_offs s4 one
    have du4 := du.up sO
    refine ⟨rp, rfl, ⟨_, .inl (.inl ep4)⟩, for_list (K := K) (a := rp) (xs := us.reverse) (fun t σ G => (∃ y3 y4 y5, σ = [some x, some (.ref a), some (.ref rd), y3, y4, y5]) ∧ ButL [rd] H4 G ∧
        ∃ rs : List V, G rd = some (.lst rs) ∧ DxAll K (OffS [rd] G) rs ((stk [d] (us.length - t)).map (renD (nmOf m))).reverse)
      ⟨⟨_, _, _, rfl⟩, ButL.refl, [], er4, ?_⟩ (fun t σ G _ h => .inl (.inl (h.2.1.at ep4 (by simp [nrr.symm])))) ?_ ?_⟩
    · rw [Nat.sub_zero, stk_end f1 (by omega)]
      exact .nil
    · rintro t v σ G hi ⟨⟨y3, y4, y5, rfl⟩, bG, rs, erG, drs⟩
      obtain ⟨lti, hi⟩ := rev_at hi
      have hk2 : us.length - 1 - t < (preAll [d]).length := by omega
      have sG : Same H G := ButL.same s4 one bG
      have so : Same (OffS [rd] H4) (OffS [rd] G) := offs_but bG (fun b h1 h2 => absurd h1 h2)
      obtain ⟨v', hv, dv⟩ := du4.get (at_of hk2)
      rw [hi] at hv
      cases hv
      obtain ⟨r, ek, fp, fr, ek1⟩ := stk_at f1 (at_of hk2)
      have en1 : us.length - t = us.length - 1 - t + 1 := by omega
      have en2 : us.length - (t + 1) = us.length - 1 - t := by omega
      rw [en1, ek1] at drs
      rw [en2, ek]
      generalize (preAll [d])[us.length - 1 - t] = p at dv ek fp ek1 drs ⊢
      obtain ⟨nm, es, rfl, l3, hnm, hfa⟩ := formed_shape fp
      rw [show kidsD (.tuple (.str nm :: es)) = es from rfl, List.map_append, List.reverse_append] at drs
      obtain ⟨ra, rb, rfl, dra, drb⟩ := DxAll.split drs
      obtain ⟨zs, rfl⟩ : ∃ zs, rb = zs.reverse := ⟨rb.reverse, (List.reverse_reverse _).symm⟩
      have dzs := dxr drb
      rw [List.reverse_reverse, List.reverse_reverse] at dzs
      have lzs := dzs.length
      rw [List.length_map] at lzs
      have lra := dra.length
      rw [List.length_reverse, List.length_map] at lra
      have lst : r.length ≤ 100000 := by
        have z := len_pre (stk [d] (us.length - 1 - t))
        rw [stk_drop f1, List.length_drop, ek, List.length_cons, eP] at z
        omega
      have dvG := dv.up so
      have dv' := dvG
      cases dv' with
      | @tup b xs _ hb hs =>
      cases hs with
      | @cons v0 vr _ _ h0 hws =>
      cases h0
      have hbG : G b = some (.tup (.str nm :: vr)) := OffS.all _ _ hb
      refine ⟨_, rfl, 1, rfl, ?_⟩
      dsimp only [tNoPart]
      refine sl_from (S := []) (i := 1) ((dvG.up OffS.all).up offs_nil) olds_nil fun y G1 sG1 dy => ?_
      have dy := dy.up OffS.all
      rw [List.drop_one, List.tail_cons] at dy
      cases dy with
      | @tup cc vs2 _ hc hus =>
      have lus := hus.length
      have erG1 := sG1 _ _ erG
      have so1 : Same (OffS [rd] G) (OffS [rd] G1) := OffS.same sG1
      refine ⟨cc, rfl, ⟨_, SqT.of hc⟩, fun D nD => ?_⟩
      have nrD : rd ≠ D := ne_of_none erG1 nD
      have ncD : cc ≠ D := ne_of_none hc nD
      have ncr : cc ≠ rd := fun z => by
        rw [z, erG1] at hc
        cases hc
      refine lc_tup (K := K) (a := cc) (xs := vs2) (fun j H6 => ButL [rd, D] G1 H6 ∧ H6 rd = some (.lst (ra ++ (zs.drop j).reverse)) ∧ H6 D = some (.lst (zs.take j)))
        ⟨ButL.of (same_put nD), by rw [upd_ne nrD, List.drop_zero]; exact erG1, by rw [upd_same]; rfl⟩ (fun j H6 _ h => SqT.of (h.1.at hc (by simp [ncr, ncD]))) ?_ ?_
      · rintro j y H6 hj ⟨bt, e6, eD⟩
        have ltj : j < zs.length := by
          rw [lzs, ← lus]
          exact (List.getElem?_eq_some_iff.mp hj).1
        have e6' : H6 rd = some (.lst (ra ++ (zs.drop (j + 1)).reverse ++ [zs[j]])) := by
          rw [e6, drop_at (at_of ltj), List.reverse_cons, ← List.append_assoc]
        refine ⟨rfl, (iteT (B := False) ?_ : if true = true then _ else False)⟩
        refine ⟨_, rfl, .inl ⟨rfl, _, .inl (.inl e6')⟩, rd, _, zs[j], rfl, rfl, e6', by simp, ?_⟩
        rw [List.dropLast_concat]
        refine ⟨_, by rw [upd_ne nrD.symm]; exact eD, ?_, ?_, ?_, ?_⟩
        · rw [List.length_take]
          exact small1000 (by omega)
        · exact (bt.put (by simp)).put (by simp)
        · rw [upd_ne nrD, upd_same]
        · rw [upd_same, List.take_add_one, at_of ltj]
          rfl
      · rintro H6 ⟨bt, e6, eD⟩
        rw [lus, ← lzs, List.drop_length, List.reverse_nil, List.append_nil] at e6
        rw [lus, ← lzs, List.take_length] at eD
        have nD0 : H4 D = none := by
          cases z : H4 D with
          | none => rfl
          | some ob =>
            rw [sG1 _ _ (bG.at z (by simp [nrD.symm]))] at nD
            cases nD
        have nbr : b ≠ rd := fun z => by
          rw [z, erG] at hbG
          cases hbG
        have hb6 := bt.at (sG1 _ _ hbG) (by simp [nbr, ne_of_none (sG1 _ _ hbG) nD])
        have so6 : Same (OffS [rd] G1) (OffS [rd] H6) := offs_but bt (fun b h1 h2 => by
          rcases List.mem_cons.mp h1 with z | h1
          · exact absurd (by rw [z]; exact List.mem_singleton_self _) h2
          · rw [List.mem_singleton.mp h1]; exact nD)
        have b6 : ButL [rd, D] H4 H6 := (bG.weak (by simp)).trans ((ButL.of sG1).trans bt)
        have s6 : Same H H6 := ButL.same s4 (fun z hz => by
          rcases List.mem_cons.mp hz with e | hz
          · rw [e]; exact nrd0
          · rw [List.mem_singleton.mp hz]; exact s4.free nD0) b6
        have ha6 := rd_up s6 ha
        have dra6 := dra.up (so1.trans so6)
        have dzs6 := dzs.up (so1.trans so6)
        refine ⟨_, rfl, .inl ⟨rfl, _, .inl (.inl e6)⟩, _, rfl, a, rfl, .inl ⟨_, ha6⟩, _, rfl, b, _, 0, _, rfl, rfl, SqT.of hb6, atI_nat (j := 0) rfl, _, rfl, b, _, 0, _, rfl, rfl, SqT.of hb6, atI_nat (j := 0) rfl, _, .inl ⟨strD m, Sum.inr nm, ha6, rfl, rfl⟩, _, rfl, D, _, rfl, .inr (.inl (.inl eD)), ?_, fun q1 nq => ?_⟩
        · simp only [List.append_nil, List.length_cons]
          exact Nat.le_of_lt (small1000 (by omega))
        · rw [val_strD, look_getD, List.append_nil] at *
          have sq := same_put (o := .tup (V.str (nmOf m nm) :: zs)) nq
          have e7 := sq _ _ e6
          have nqr : q1 ≠ rd := fun z => by
            rw [z, e6] at nq
            cases nq
          refine ⟨rd, ra, _, rfl, rfl, e7, big5 (by omega), ?_⟩
          have so7 : Same (OffS [rd] (upd H6 q1 (.tup (V.str (nmOf m nm) :: zs)))) (OffS [rd] (upd (upd H6 q1 (.tup (V.str (nmOf m nm) :: zs))) rd (.lst (ra ++ [.ref q1])))) := offs_but (ButL.put ButL.refl (List.mem_singleton_self _)) (fun b h1 h2 => absurd h1 h2)
          refine ⟨⟨_, _, _, rfl⟩, fun bb ob hh nn => ?_, _, upd_same, ?_⟩
          · rw [upd_ne (fun z => nn (by rw [z]; exact List.mem_singleton_self _))]
            exact sq _ _ (b6 bb ob hh (by
              intro z
              rcases List.mem_cons.mp z with z | z
              · exact nn (by rw [z]; exact List.mem_singleton_self _)
              · rw [List.mem_singleton.mp z, nD0] at hh
                cases hh))
          · rw [List.map_cons, List.reverse_cons]
            refine DxAll.append (dra6.up ((OffS.same sq).trans so7)) (.cons ?_ .nil)
            rw [show renD (nmOf m) (.tuple (.str nm :: es)) = .tuple (.str (nmOf m nm) :: es.map (renD (nmOf m))) by rw [renD, renAll_map]]
            exact (Dx.tup (OffS.out (by simp [nqr]) upd_same) (.cons (.str _) (dzs6.up (OffS.same sq)))).up so7
    · rintro σ G ⟨⟨y3, y4, y5, rfl⟩, bG, rs, erG, drs⟩
      rw [show us.length - us.reverse.length = 0 by rw [List.length_reverse]; omega] at drs
      cases drs with
      | @cons v _ _ _ dv drs =>
      cases drs
      exact ⟨_, rfl, rd, _, 0, v, rfl, rfl, .inl (.inl erG), atI_nat (j := 0) rfl, q v G (ButL.same s4 one bG) (dv.up OffS.all)⟩
end
end K12
/-! {elt for target in iter}, elt a text or an int; its length. -/
namespace Kx
open PySem PySem.Spec PyProof.Rows L2 PpSet
section
variable {X : Cx}
/-- what a turn leaves: Nx the heap behind it -/
abbrev TurnK (P : Program) (w : World) (D : Addr) (te : TE) (σ : L2.St) (H : Hp) (Nx : Hp → Prop) : Prop :=
  te σ H fun y G => ∃ (c : Key) (S : Key → Bool) (n : Nat), y = kV c ∧ G D = some (L2.SetK P w D S n) ∧ n + 1 < scanBound ∧ Nx (upd G D (L2.SetK P w D (fun j => S j || decide (j = c)) (if S c = true then n else n + 1)))
def tScK (P : Program) (w : World) (wi : TI) (g : TG) (tt : TT) (te : TE) (vs : List Nat) : TE := fun σ H Q => wi σ H fun J H1 => ∀ D, H1 D = none →
  ∃ W : Nat → Nat → Hp → Prop, (∃ m, W 0 m (upd H1 D (L2.SetK P w D (fun _ => false) 0))) ∧ ∀ i m G, W i m G → (J.stop i G ∧ Q (.ref D) G) ∨
    (J.go i G ∧ ∃ Nx : Hp → Prop, (∀ G', Nx G' → ∃ m', m' < m ∧ W (i + 1) m' G') ∧ ∀ x G', J.yld i G x G' → g x (wipe σ vs) G' fun σ2 G2 => wipe σ2 vs = wipe σ vs ∧ tt σ2 G2 fun b G3 => if b = true then TurnK P w D te σ2 G3 Nx else Nx G3)
theorem emptyK {P : Program} {w : World} {h : Heap} : (h.push { cls := .type "set", dict := none, data := .set #[] 0 (.fresh 0 0 (!w.params.followText "set-order")) }).SetOf (mixKind P w) h.objs.size (fun _ => false) 0 :=
  ⟨_, #[], 0, _, Heap.get?_push_size _ rfl, ⟨rfl, rfl, rfl⟩, rfl, (fun e he => by simp at he), (fun k => by simp), (by decide), (by rfl), rfl⟩
theorem pe_scK {elt tg iter : Expr} {ifs : List Expr} {scope : Scope} {own : List (PySem.Str × Nat)} {pos : Pos} {wi : TI} {g : TG} {tt : TT} {te : TE} (hc : X.calm = true) (hN : X.N.Nodup) (hi : PI X tg iter wi) (ok : BlkOk X.N X.env.scope scope own)
    (hg : ∀ (s : Shared) (H : Hp) (C : Addr) (cl : List (PySem.Str × Addr)) (fp : List Addr), PG (X.blk s H scope (compEnvC scope cl C X.env) fp) tg g)
    (ht : ∀ (s : Shared) (H : Hp) (C : Addr) (cl : List (PySem.Str × Addr)) (fp : List Addr), PTs (X.blk s H scope (compEnvC scope cl C X.env) fp) ifs tt)
    (he : ∀ (s : Shared) (H : Hp) (C : Addr) (cl : List (PySem.Str × Addr)) (fp : List Addr), PE (X.blk s H scope (compEnvC scope cl C X.env) fp) elt te) (hs : ∀ x, foldedSetIterable iter X.env x = pure x := by intro _; rfl) :
    PE X (.SetComp elt [⟨tg, iter, ifs, 0⟩] scope pos) (tScK X.prog X.w wi g tt te (own.map (·.2))) := by
  refine ⟨fun pins s σ H Q I hQ => ?_⟩
  have cells : ∀ y ∈ scope.names, y.2 = .free → ∃ c, X.env.cells.lookup y.1 = some c := fun y hy e =>
    (ok.free y hy e).elim (fun z => I.ok.has _ (.inl z)) (fun z => I.ok.has _ (.inr z))
  rw [eval_SetComp]
  refine wpAny_comprehension_free (use := none) rfl hs (closure_ok cells) ok.kind (fun y hy e => by rw [ok.uniq y hy, e]) (thn (hi.run pins s σ H _ I hQ) fun xv sa ha => thn ha fun itv sb hb => ?_)
  obtain ⟨it, fp, tn, J, Hb, rfl, Ib, T, stb, fb, qb⟩ := hb
  refine newSet_ok (newEnv_comp ?_)
  obtain ⟨D, eD⟩ : ∃ D, D = sb.heap.objs.size := ⟨_, rfl⟩
  have nD : Hb D = none := Ib.hok.fresh (by rw [eD]; exact Nat.le_refl _)
  obtain ⟨W, ⟨m0, w0⟩, turns⟩ := qb D nD
  obtain ⟨sc, esc⟩ : ∃ sc : Shared, sc = { sb with heap := sb.heap.push { cls := .type "set", dict := none, data := .set #[] 0 (.fresh 0 0 (!X.w.params.followText "set-order")) } } := ⟨_, rfl⟩
  have hsc : sc.heap = sb.heap.push { cls := .type "set", dict := none, data := .set #[] 0 (.fresh 0 0 (!X.w.params.followText "set-order")) } := by rw [esc]
  have Ic : Inv X pins σ (upd Hb D (L2.SetK X.prog X.w D (fun _ => false) 0)) sc := by
    subst esc eD
    exact Ib.laid (t' := sb.toks) (fun b o e => Heap.get?_push_of_some _ e) (Nat.le_refl _) (L2.setK_new emptyK)
  have old : ∀ b ∈ fp, b < sb.heap.objs.size := fun b hb => by
    obtain ⟨o, e, _⟩ := T.obj _ _ stb b hb
    exact Heap.lt_size e
  have fc : ∀ b ∈ fp, FpOk X pins (upd Hb D (L2.SetK X.prog X.w D (fun _ => false) 0)) b ∧ b < sc.heap.objs.size := fun b hb => by
    have lt := old b hb
    refine ⟨⟨?_, (fb b hb).2⟩, by rw [hsc, Heap.size_push]; exact Nat.lt_succ_of_lt lt⟩
    rw [upd_ne (show b ≠ D by rw [eD]; exact Nat.ne_of_lt lt)]
    exact (fb b hb).1
  have stc : tn 0 sc.heap := T.keep _ _ _ stb fun b _ o e => by
    rw [hsc]
    exact Heap.get?_push_of_some _ e
  obtain ⟨Hc, eHc⟩ : ∃ Hc, Hc = upd Hb D (L2.SetK X.prog X.w D (fun _ => false) 0) := ⟨_, rfl⟩
  rw [← eHc] at Ic fc w0
  obtain ⟨cl, ecl⟩ : ∃ cl, cl = cellsFrom (sc.heap.objs.size + 1) scope.names (cloFrom X.env.cells scope.names []) := ⟨_, rfl⟩
  have Id := block_start Ic ok hN fc
  have pg := hg sc Hc sc.heap.objs.size cl fp
  have pt := ht sc Hc sc.heap.objs.size cl fp
  have pe := he sc Hc sc.heap.objs.size cl fp
  have goal : codeAny (model X.prog X.w) X.A (.compStart (.SetComp elt [⟨tg, iter, ifs, 0⟩] scope pos) 0 (.ref it) (.ref D) (compEnvC scope cl sc.heap.objs.size X.env)) (compPost (model X.prog X.w) X.A X.xe none (EP X pins σ Q) (.ref D) sc.heap.objs.size)
      { sc with heap := pushCells (sc.heap.push { cls := .type "dict", data := .dict #[] }) scope.names } := by
    rw [← ecl] at Id
    obtain ⟨ce, ece⟩ : ∃ ce, ce = compEnvC scope cl sc.heap.objs.size X.env := ⟨_, rfl⟩
    rw [← ece] at Id pg pt pe ⊢
    have loc : ce.locals = sc.heap.objs.size := by rw [ece]; rfl
    obtain ⟨sd, esd⟩ : ∃ sd : Shared, sd = { sc with heap := pushCells (sc.heap.push { cls := .type "dict", data := .dict #[] }) scope.names } := ⟨_, rfl⟩
    rw [← esd] at Id ⊢
    have std : tn 0 sd.heap := T.keep _ _ _ stc fun b _ o e => by
      rw [esd]
      exact pushCells_keeps _ _ _ _ (Heap.get?_push_of_some _ e)
    have inB : ∀ {τ : L2.St} {G : Hp} {z : Shared}, Inv (X.blk sc Hc scope ce fp) [] τ G z → (∀ b ∈ fp, G b = none) → ∀ b ∈ fp, FpOk (X.blk sc Hc scope ce fp) [] G b := fun {τ G z} I' hn b hb =>
      ⟨hn b hb, (I'.ok.exf b hb).1, I'.ok.exfs b hb, .inl hb, fun x c e => (I'.ok.exf b hb).2 x c e, fun p hp => absurd (show p ∈ ([] : List (Addr × Obj)) ++ [] from hp) (by simp)⟩
    have main : codeAny (model X.prog X.w) X.A (.compLoop (.SetComp elt [⟨tg, iter, ifs, 0⟩] scope pos) 0 (.ref it) (.ref D) ce) (compPost (model X.prog X.w) X.A X.xe none (EP X pins σ Q) (.ref D) sc.heap.objs.size) sd := by
      refine compLoopS_any (fun n z => ∃ i G, Inv (X.blk sc Hc scope ce fp) [] (wipe σ (own.map (·.2))) G z ∧ tn i z.heap ∧ (∀ b ∈ fp, G b = none) ∧ W i n G) ?_ m0 ⟨0, Hc, Id, std, fun b hb => (fc b hb).1.1, w0⟩
      rintro n z ⟨i, G, IG, stG, nG, wG⟩
      rcases turns i n G wG with ⟨stop, qq⟩ | ⟨go, Nx, hNx, step⟩
      · refine thnF (T.done (X.blk sc Hc scope ce fp) rfl rfl rfl hc i [] z _ G (fun _ _ => False) IG (inB IG nG) stG stop) fun r z2 ⟨hr, I2⟩ => ?_
        subst hr
        have I3 : Inv X pins σ G z2 := Ic.call' (ch := fp) I2.os I2.base I2.hok I2.bare fun b hb => ⟨(fc b hb).1.2.2.2.1, (fc b hb).1.2.1, (fc b hb).1.2.2.2.2.1, (fc b hb).1.2.2.2.2.2⟩
        have nC : G sc.heap.objs.size = none := by
          have z : G ce.locals = none := I2.free
          rwa [loc] at z
        obtain ⟨mm, hm, _⟩ := I2.loc
        have hm : z2.heap.Ns ce.locals mm := hm
        rw [loc] at hm
        refine ⟨mm, hm, fun h'' up => ?_⟩
        obtain ⟨f0, f1, f2, f3, f4, f5⟩ := Ic.fpOk (Nat.le_refl _) nC
        exact ⟨.ref D, G, I3.turned (t' := z2.toks) (fun b o hb e => (up.2 b hb).trans e) f0 f1 f3 f4 f5, rfl, qq⟩
      · refine thnF (T.item (X.blk sc Hc scope ce fp) rfl rfl rfl hc i [] z _ G (fun _ _ => False) IG (inB IG nG) stG go) fun r z2 ⟨u, hr, h2⟩ => ?_
        subst hr
        refine thnF h2 fun _ z3 ⟨x, G3, I3, r3, y3, st3, n3⟩ => ?_
        refine thnF (pg.run _ z3 _ G3 x u _ (I3.pinned (inB I3 n3) (T.obj _ _ st3)) r3 (step x G3 y3)) fun _ z4 ⟨σ4, G4, I4, hw, q4⟩ => ?_
        refine thnF (pt.run _ z4 σ4 G4 _ I4 q4) fun b z5 ⟨G5, I5, q5⟩ => ?_
        have back : ∀ {z' : Shared} {G' : Hp}, Inv (X.blk sc Hc scope ce fp) ([] ++ pinsAt fp z3.heap) σ4 G' z' → Nx G' → ∃ m, m < n ∧ ∃ i G, Inv (X.blk sc Hc scope ce fp) [] (wipe σ (own.map (·.2))) G z' ∧ tn i z'.heap ∧ (∀ b ∈ fp, G b = none) ∧ W i m G := fun {z' G'} I' nx => by
          obtain ⟨m', lt, w'⟩ := hNx G' nx
          have at' : ∀ b ∈ fp, ∀ o, z3.heap.get? b = some o → z'.heap.get? b = some o ∧ G' b = none := fun b hb o e =>
            have p := I'.pin (b, o) (List.mem_append_right _ (List.mem_append_right _ (mem_pinsAt hb e)))
            ⟨p.1, p.2.1⟩
          refine ⟨m', lt, i + 1, G', (I'.unpinned (pins := [])).weak (by rw [← hw, wipe_length]) (fun j v e => ?_), T.keep _ _ _ st3 fun b hb o e => (at' b hb o e).1, fun b hb => ?_, w'⟩
          · rw [← hw] at e
            exact (wipe_some e).1
          · obtain ⟨o, e, _⟩ := T.obj _ _ st3 b hb
            exact (at' b hb o e).2
        by_cases eb : b = true
        · subst eb
          simp only [if_true] at q5 ⊢
          refine thnF (pe.run _ z5 σ4 G5 _ I5 q5) fun v z6 ⟨yv, G6, I6, r6, c, S, k, ey, h6, room, nx⟩ => ?_
          subst ey
          exact thnF (mt_saddK (X := X.blk sc Hc scope ce fp) _ z6 σ4 G6 (.ref D) [kV c] (.ref D) [v] (fun _ G' => Nx G') I6 rfl (.cons r6 .nil) ⟨D, c, S, k, rfl, rfl, h6, room, nx⟩) fun _ z7 ⟨_, G7, I7, _, nx7⟩ => back I7 nx7
        · have eb' : b = false := by simpa using eb
          subst eb'
          simp only [Bool.false_eq_true, if_false] at q5 ⊢
          exact back I5 q5
    exact codeAny_compStart_set main (T.self X.A 0 _ _ _ std main)
  rw [ecl] at goal
  subst esc eD
  exact goal
end
end Kx
namespace Kx
open PySem PySem.Spec PyProof.Rows L2 PpSet
section
variable {X : Cx}
def rLenSK (P : Program) (w : World) : List V → Hp → VK → Prop := fun xs H Q => ∃ (a : Addr) (S : Key → Bool) (n : Nat), xs = [.ref a] ∧ H a = some (L2.SetK P w a S n) ∧ Q (.int (n : Nat)) H
theorem call_lenSK : CallR X (.builtin "len") (rLenSK X.prog X.w) := by
  intro pins s σ H xs us Q I rv h
  obtain ⟨a, S, n, rfl, ha, q⟩ := h
  obtain ⟨u, rfl, ru⟩ := rv.one
  cases ru
  obtain ⟨o, es, ep, t, ho, hex, hd, _, _, few, hf, hn⟩ := L2.setK_get I ha
  have e4 : scanBound = 4096 := rfl
  exact call_len_set ho hex hd hf (by omega) ⟨.int (n : Nat), H, I.tok _, ⟨_, by rw [hn]⟩, q⟩
end
/-- a set comprehension over the keys of a locked dict -/
theorem sck_keys {P : Program} {w : World} {d : Addr} {o : Obj} {kvs : List (Key × V)} {g : TG} {tt : TT} {te : TE} {vs : List Nat} {σ : L2.St} {H1 : Hp} {D : Addr} {Qd : Hp → Prop} (Pv : Nat → Hp → Prop) (h0 : Pv 0 (upd H1 D (L2.SetK P w D (fun _ => false) 0)))
    (hl : ∀ i H, Pv i H → H d = some (.frz o (.dK kvs))) (hs : ∀ (i : Nat) k v H, kvs[i]? = some (k, v) → Pv i H → g (kV k) (wipe σ vs) H fun σ2 H2 => wipe σ2 vs = wipe σ vs ∧ tt σ2 H2 fun b H3 => if b = true then TurnK P w D te σ2 H3 (Pv (i + 1)) else Pv (i + 1) H3)
    (hd : ∀ H, Pv kvs.length H → Qd H) : ∃ W : Nat → Nat → Hp → Prop, (∃ m, W 0 m (upd H1 D (L2.SetK P w D (fun _ => false) 0))) ∧ ∀ i m G, W i m G → ((Itk d o kvs).stop i G ∧ Qd G) ∨
    ((Itk d o kvs).go i G ∧ ∃ Nx : Hp → Prop, (∀ G', Nx G' → ∃ m', m' < m ∧ W (i + 1) m' G') ∧ ∀ x G', (Itk d o kvs).yld i G x G' → g x (wipe σ vs) G' fun σ2 G2 => wipe σ2 vs = wipe σ vs ∧ tt σ2 G2 fun b G3 => if b = true then TurnK P w D te σ2 G3 Nx else Nx G3) := by
  refine ⟨fun i m H => m = kvs.length - i ∧ i ≤ kvs.length ∧ Pv i H, ⟨_, rfl, Nat.zero_le _, h0⟩, ?_⟩
  rintro i m G ⟨rfl, le, p⟩
  have f := hl i G p
  by_cases lt : i < kvs.length
  · refine .inr ⟨⟨f, lt⟩, Pv (i + 1), fun G' p' => ⟨kvs.length - (i + 1), by omega, rfl, lt, p'⟩, fun x G' ⟨e, k, v, hk, ex⟩ => ?_⟩
    subst e ex
    exact hs i k v _ hk p
  · have e : i = kvs.length := by omega
    subst e
    exact .inl ⟨⟨f, Nat.le_refl _⟩, hd G p⟩
/-- a list comprehension over the keys of a locked dict -/
theorem lc_keys {d : Addr} {o : Obj} {kvs : List (Key × V)} {g : TG} {tt : TT} {te : TE} {vs : List Nat} {σ : L2.St} {H1 : Hp} {D : Addr} {Qd : Hp → Prop} (Pv : Nat → Hp → Prop) (h0 : Pv 0 (upd H1 D (.lst [])))
    (hl : ∀ i H, Pv i H → H d = some (.frz o (.dK kvs))) (hs : ∀ (i : Nat) k v H, kvs[i]? = some (k, v) → Pv i H → g (kV k) (wipe σ vs) H fun σ2 H2 => wipe σ2 vs = wipe σ vs ∧ tt σ2 H2 fun b H3 =>
      if b = true then te σ2 H3 fun y H4 => ∃ acc, H4 D = some (.lst acc) ∧ acc.length < sizeLine ∧ Pv (i + 1) (upd H4 D (.lst (acc ++ [y]))) else Pv (i + 1) H3)
    (hd : ∀ H, Pv kvs.length H → Qd H) : ∃ W : Nat → Nat → Hp → Prop, (∃ m, W 0 m (upd H1 D (.lst []))) ∧ ∀ i m G, W i m G → ((Itk d o kvs).stop i G ∧ Qd G) ∨
    ((Itk d o kvs).go i G ∧ ∃ Nx : Hp → Prop, (∀ G', Nx G' → ∃ m', m' < m ∧ W (i + 1) m' G') ∧ ∀ x G', (Itk d o kvs).yld i G x G' → g x (wipe σ vs) G' fun σ2 G2 => wipe σ2 vs = wipe σ vs ∧ tt σ2 G2 fun b G3 =>
      if b = true then te σ2 G3 fun y G4 => ∃ acc, G4 D = some (.lst acc) ∧ acc.length < sizeLine ∧ Nx (upd G4 D (.lst (acc ++ [y]))) else Nx G3) := by
  refine ⟨fun i m H => m = kvs.length - i ∧ i ≤ kvs.length ∧ Pv i H, ⟨_, rfl, Nat.zero_le _, h0⟩, ?_⟩
  rintro i m G ⟨rfl, le, p⟩
  have f := hl i G p
  by_cases lt : i < kvs.length
  · refine .inr ⟨⟨f, lt⟩, Pv (i + 1), fun G' p' => ⟨kvs.length - (i + 1), by omega, rfl, lt, p'⟩, fun x G' ⟨e, k, v, hk, ex⟩ => ?_⟩
    subst e ex
    exact hs i k v _ hk p
  · have e : i = kvs.length := by omega
    subst e
    exact .inl ⟨⟨f, Nat.le_refl _⟩, hd G p⟩
end Kx
/-! Defs with str.replace; defs that raise. -/
namespace Kx
open PySem PySem.Spec PyProof.Rows L2 CwR
section
variable {X : Cx} {o e : Expr} {to te : TE} {pos : Pos}
theorem pst_set {i : Nat} {x : Str} {pos' : Pos} (hN : X.N.Nodup) (hi : X.N[i]? = some x) (hx : Loc X.env.scope x) (he : PET X e te) (hs : swapsWith e (some (.Name x pos')) pos.line X.env = pure false := by rfl) (hf : X.fn x = true ∨ X.env.scope.names.lookup x = some .local := by first | exact .inl rfl | exact .inr rfl | assumption) :
    PST X (.Assign [.Name x pos'] e pos) (tAsg te (gName i)) := by
  intro pins s σ H D h0 I h
  refine wpAny_Assign_Name (thn (he pins s σ H _ h0 I h) fun v s1 ⟨y, H1, I1, r1, q1⟩ => ?_) hs
  exact store_ok I1 hN hi hx r1 (fun s2 I2 => ⟨_, H1, I2, q1⟩) hf
theorem pet_m0 {id : String} {name : Str} {apos pos : Pos} {r : V → List V → Hp → VK → Prop} (slot : Slot "str" name id) (ty : typeOf (.builtin id) = pure (.type "method_descriptor")) (rule : MtR X id r) (ho : PET X o to)
    (hbase : attributeBase o name X.env (eval o X.env) = eval o X.env := by rfl) (hline : (apos.endLine == pos.line) = true := by rfl) : PET X (.Call (.Attribute o name apos) [] [] pos) (tM0 r to) := by
  intro pins s σ H Q h0 I h
  refine PySem.Call_method0 hbase hline (thn (ho pins s σ H _ h0 I h) fun v s1 ⟨x, H1, I1, r1, q1⟩ => ?_)
  obtain ⟨⟨a, rfl⟩, q1⟩ := q1
  obtain ⟨t, rfl⟩ := _root_.id r1
  exact ⟨"str", _, F.plainAttrs_str, slot, ty, typeIs_str _ _ _, (fun _ e => nomatch e), Calls.callWith_builtin rfl (PySem.evalArgs_none (rule pins s1 σ H1 _ [] _ [] Q I1 r1 .nil q1))⟩
theorem pet_words {apos pos : Pos} (ho : PET X o to) (hbase : attributeBase o "split" X.env (eval o X.env) = eval o X.env := by rfl) (hline : (apos.endLine == pos.line) = true := by rfl) :
    PET X (.Call (.Attribute o "split" apos) [] [] pos) (tM0 (fun x xs H Q => ∃ a, x = .str a ∧ xs = [] ∧ a.length + 2 ≤ sizeLine ∧ rNewStrs (Txt.words a) H Q) to) :=
  pet_m0 F.slot_str_split F.type_str_split mt_words ho hbase hline
end
section
variable {P : Program} {w : World} {K : PySem.W.Frag} {mg : Str → Option Value} {base : Heap}
/-- a def in which a token is out from the beginning on (it has a parameter) -/
theorem okT {x qual : Str} {st : Stmt} {f : Addr} {fd : FuncData} {N ps : List Str} {k : Nat} {sp : Sp} (F : Fun K x qual st f fd) (S : FnScope N ps (defScope st)) (hnc : ∀ y ∈ (defScope st).names, y.2 ≠ .cell) (hps : 1 ≤ ps.length) (len : ∀ vs H Q E, sp vs H Q E → vs.length = ps.length)
    (hbody : ∀ (cdv : Value) (A : Around) (outer : List Env) (s : Shared) (H : Hp) (vs : List V) (Q : VK) (E : XK), Room k (A.deeper (envOfC qual (defScope st) s.heap.objs.size f cdv)) → sp vs H Q E →
      ∃ t, PSsT (cxOf CX0 P w K mg base N qual (defScope st) f cdv A outer s H E) (defBody st) t ∧ t { nx := fun _ H' => Q .non H', rt := Q } (start N vs) H) : FnOk P w K mg base CX0 (k + 1) f fd ps sp := by
  obtain ⟨oc, od, kV, doc, pm, an, cdv, ct, osl, rfl, lk, hcd⟩ := F.ex
  exact fn_ofT lk hcd S hnc hps len fun A outer s H vs Q E hr h => hbody cdv A outer s H vs Q E hr h
theorem exm_self {S : Addr} (h1 : PySem.W.subIn K (.ref S) (.type "BaseException") = some true) (h2 : PySem.W.isClsIn K S = true) (h3 : PySem.W.typeIn K (.ref S) = some (.type "type")) (h4 : PySem.W.subIn K (.ref S) (.ref S) = some true) :
    PySem.W.exmOne K (.ref S) (.ref S) = some true := by
  have e1 : (PySem.W.subIn K (.ref S) (.type "BaseException") == some true) = true := by rw [h1] <;> rfl
  have e2 : ((PySem.W.clsIn K S).isSome && PySem.W.typeIn K (.ref S) == some (.type "type")) = true := by
    have h2' : (PySem.W.clsIn K S).isSome = true := h2
    rw [h2', h3] <;> rfl
  show (if (PySem.W.subIn K (.ref S) (.type "BaseException") == some true) = true then (if ((PySem.W.clsIn K S).isSome && PySem.W.typeIn K (.ref S) == some (.type "type")) = true then PySem.W.subIn K (.ref S) (.ref S) else none) else none) = some true
  rw [if_pos e1, if_pos e2]
  exact h4
end
end Kx
/-! {None: v}: made, asked for its class, walked. -/
namespace Kx
open PySem PySem.Spec PyProof.Rows L2
/-- a dict with the one key None -/
def DNo (P : Program) (w : World) (a : Addr) : HO := .ext fun h => (a == sysModules) = false ∧ ∃ u, h.DictOf (noneKind P w) a [(none, u)]
theorem dno_ok {P : Program} {w : World} {H : Hp} {h : Heap} {a : Addr} {u : Value} (n : (a == sysModules) = false) (e : h.DictOf (noneKind P w) a [(none, u)]) : ObjOk P w H h a (DNo P w a) := by
  obtain ⟨o, es, ep, ho, r⟩ := id e
  refine ⟨⟨n, u, e⟩, ⟨o, ho⟩, fun h1 h2 ⟨n, u, o, es, ep, h, r⟩ k => ⟨n, u, o, es, ep, k _ h, r⟩⟩
theorem dno_ne {P : Program} {w : World} {a : Addr} {ps : Array Value} : DNo P w a ≠ .tbl ps := fun z => by
  unfold DNo at z
  cases z
def tDispN (P : Program) (w : World) (tv : TE) : TE := fun σ H Q => ∀ p, H p = none → tv σ (upd H p (.dK [])) fun _ H2 => H2 p = some (.dK []) ∧ Q (.ref p) (upd H2 p (DNo P w p))
theorem pe_dispN {X : Cx} {pos : Pos} {k v : Expr} {tv : TE} (hk : PE X k (tC .non)) (hv : PE X v tv) : PE X (.Dict [some k] [v] pos) (tDispN X.prog X.w tv) := by
  refine ⟨fun pins s σ H Q I q => ?_⟩
  have hn := I.hok.fresh (Nat.le_refl s.heap.objs.size)
  have I1 := I.laid (a := s.heap.objs.size) (o := .dK []) (h' := s.heap.push { cls := .type "dict", data := .dict #[] }) (t' := s.toks) (fun _ _ q => Heap.get?_push_of_some _ q) (Nat.le_refl _) (dk_empty s.heap I.big)
  refine wpAny_Dict_walk (knd := noneKind X.prog X.w) rfl rfl (by simp) (by simp) (pairTrees_cons_walk (thn (hk.run pins _ σ _ (fun x H1 => x = .non ∧ H1 = upd H s.heap.objs.size (.dK [])) I1 ⟨rfl, rfl⟩) ?_))
  rintro kv s1 ⟨x, H1, I2, rx, ex, eH⟩
  rw [eH] at I2
  subst ex
  obtain rfl : kv = Value.none := rx
  refine thn (hv.run pins s1 σ _ _ I2 (q _ hn)) ?_
  rintro vv s2 ⟨y, H2, I3, ry, hp, q2⟩
  refine pairTrees_nil_walk ?_
  obtain ⟨z, hd, vs0, r0, dd⟩ := dk_of I3.hok hp
  cases r0
  have dd0 : s2.heap.DictOf (noneKind X.prog X.w) s.heap.objs.size [] := by
    obtain ⟨o, es, ep, ho, hx, hdt, hk, hp, hnd⟩ := dd
    have e0 : es.toList = [] := by
      cases e : es.toList with
      | nil => rfl
      | cons a b => rw [e] at hp; cases hp
    refine ⟨o, es, ep, ho, hx, hdt, ?_, by rw [e0]; exact .nil, List.nodup_nil⟩
    intro e he
    have he : e ∈ es.toList := Array.mem_toList_iff.mpr he
    rw [e0] at he
    cases he
  refine ⟨[(none, vv)], ?_, dd0, fun h' dd' hs => ⟨.ref s.heap.objs.size, _, ?_, rfl, q2⟩⟩
  · exact ⟨rfl, rfl, trivial⟩
  have he : ∃ q, h'.get? s.heap.objs.size = some q := let ⟨q, _, _, hq, _⟩ := dd'; ⟨q, hq⟩
  exact d_write I3 (by rw [hp]; exact True.intro) hs he (dno_ok hd dd')
/-- its one key, None -/
def ItN (P : Program) (w : World) (d : Addr) (o : Obj) : It :=
  ⟨fun i H => H d = some (.frz o (DNo P w d)) ∧ i < 1, fun i H x H' => H' = H ∧ x = .non, fun i H => H d = some (.frz o (DNo P w d)) ∧ 1 ≤ i⟩
section
variable {P : Program} {w : World} {K : PySem.W.Frag} {tg : Expr} {d : Addr} {o : Obj} {es : Array DictEntry} {ep : Nat}
theorem Inv.frzN {X : Cx} {pins : List (Addr × Obj)} {σ : L2.St} {H : Hp} {s : Shared} (I : Inv X pins σ H s) (h : H d = some (.frz o (DNo X.prog X.w d))) :
    (d == sysModules) = false ∧ s.heap.get? d = some o ∧ o.ExactDict ∧ ∃ (es : Array DictEntry) (ep : Nat), o.data = .dict es ep ∧ es.size = 1 ∧ ∃ en : DictEntry, es[0]? = some en ∧ en.key = .none := by
  obtain ⟨hd, ⟨ns, u, o', es, ep, ho, hx, hdt, _, pr, _⟩, _⟩ := I.hok d _ h
  rw [hd] at ho
  cases ho
  cases e : es.toList with
  | nil => rw [e] at pr; cases pr
  | cons a l =>
    rw [e] at pr
    cases pr with
    | cons p1 p2 pt =>
      cases pt
      refine ⟨ns, hd, hx, es, ep, hdt, by rw [← Array.length_toList, e]; rfl, a, by rw [← Array.getElem?_toList, e]; rfl, ?_⟩
      exact nk_none p1
theorem turn_keysN (it : Addr) (hod : o.data = .dict es ep) : Turn P w K tg (ItN P w d o) [it] it (fun i h => h.IsKeyIter it d i 1 ep) where
  mem := by simp
  obj := fun i h st b hb => by
    have e : b = it := by simpa using hb
    subst e
    obtain ⟨oi, e, c, dd⟩ := st
    exact ⟨oi, e, fun v z => by rw [dd] at z; cases z⟩
  keep := fun i h h' st k => st.at fun oi e => k it (by simp) oi e
  item := by
    intro X hP hw hK hc i pins s σ H E I hf st hg
    subst hP hw hK
    obtain ⟨hd, hi⟩ := hg
    obtain rfl : i = 0 := by omega
    obtain ⟨f0, f1, f2, f3, f4, f5⟩ := hf it (by simp)
    obtain ⟨hs, hgd, hx, es', ep', hdt, hsz, en, hen, hkey⟩ := Inv.frzN I hd
    obtain ⟨rfl, rfl⟩ := dict_ep hod hdt
    refine next_key_item st hgd hdt hsz hen fun h' st' sb => ?_
    have I1 : Inv X pins σ H { s with heap := h' } := I.turned (t' := s.toks) (fun b ob hb e => (sb.2 b hb).trans e) f0 f1 f3 f4 f5
    obtain ⟨oi, e, c, dd⟩ := id st'
    exact ⟨en.key, rfl, go_of (s := { s with heap := h' }) e c dd (by decide) ⟨.non, H, I1, hkey, ⟨rfl, rfl⟩, st', fun b hb => (hf b hb).1⟩⟩
  done := by
    intro X hP hw hK hc i pins s σ H E I hf st hg
    subst hP hw hK
    obtain ⟨hd, hi⟩ := hg
    obtain ⟨f0, f1, f2, f3, f4, f5⟩ := hf it (by simp)
    obtain ⟨hs, hgd, hx, es', ep', hdt, hsz, en, hen, hkey⟩ := Inv.frzN I hd
    obtain ⟨rfl, rfl⟩ := dict_ep hod hdt
    exact next_key_end (I.ok.hd hc) st hgd hdt hsz hi fun h' eb => ⟨rfl, I.turned (t' := s.toks) (fun b ob hb e => eb b ob hb e) f0 f1 f3 f4 f5⟩
  self := fun A i s Q E st h => by
    refine wpAny_pyIter_slot st.typeIs F.slot_dict_keyiterator_iter (wpAny_call_entry F.slot_dict_keyiterator_iter st.typeIs F.entry_dict_keyiterator_iter ?_ (F.args_dict_keyiterator_iter_1 _))
    show wpAny _ _ (ret (.ref it)) _ _ s
    exact wpAny_pure ⟨_, rfl, "dict_keyiterator", _, st.typeIs, F.slot_dict_keyiterator_next.lookup, h⟩
theorem walk_keysN : Walk (ItN P w d o) 1 (fun H => H d = some (.frz o (DNo P w d))) (fun i H x H' => H' = H ∧ x = .non) :=
  ⟨fun _ _ hi q => ⟨q, hi⟩, fun _ q => ⟨q, Nat.le_refl _⟩, fun _ _ _ _ _ _ y => y⟩
end
/-- the keys of the locked dict, which may be the one with None -/
def iKeysN (P : Program) (w : World) (td : TE) : TI := fun σ H R => td σ H fun x H1 => ∃ d o, x = .ref d ∧ ((∃ kvs, H1 d = some (.frz o (.dK kvs)) ∧ R (Itk d o kvs) H1) ∨ (H1 d = some (.frz o (DNo P w d)) ∧ R (ItN P w d o) H1))
theorem pi_keysN {X : Cx} {tg e : Expr} {td : TE} (he : PE X e td) : PI X tg e (iKeysN X.prog X.w td) := by
  refine ⟨fun pins s σ H R I h => ?_⟩
  refine thn (he.run pins s σ H _ I h) fun u s1 ⟨x, H1, I1, rx, d, o, ex, q⟩ => ?_
  subst ex
  obtain rfl : u = Value.ref d := rx
  rcases q with ⟨kvs, hd, q⟩ | ⟨hd, q⟩
  · obtain ⟨hs, hgd, hx, es, ep, vs, hdt, hsz, kv, hm⟩ := I1.frzK hd
    refine iter_keys hs hgd hx hdt (pi_one (tk := s1.toks) I1 _ (turn_keys _ hdt) ⟨_, Heap.get?_push_size _ rfl, rfl, ?_⟩ q)
    rw [hsz] <;> rfl
  · obtain ⟨hs, hgd, hx, es, ep, hdt, hsz, en⟩ := Inv.frzN I1 hd
    refine iter_keys hs hgd hx hdt (pi_one (tk := s1.toks) I1 _ (turn_keysN _ hdt) ⟨_, Heap.get?_push_size _ rfl, rfl, ?_⟩ q)
    rw [hsz] <;> rfl
/-- isinstance(x, C), x data or such a dict -/
def rIsiN (P : Program) (w : World) (K : PySem.W.Frag) : List V → Hp → VK → Prop := fun xs H Q => rIsi K xs H Q ∨ ∃ (a : Addr) (c : V) (u : Value) (b : Bool), xs = [.ref a, c] ∧ H a = some (DNo P w a) ∧ ClsV c u ∧ PySem.W.kitOne K (.type "dict") u = some b ∧ Q (.bl b) H
theorem call_isiN {X : Cx} : CallR X (.builtin "isinstance") (rIsiN X.prog X.w X.K) := by
  intro pins s σ H xs us Q I r h
  rcases h with h | ⟨a, c, u, b, rfl, ha, k, e, q⟩
  · exact call_isi pins s σ H xs us Q I r h
  obtain ⟨u1, u2, rfl, r1, r2⟩ := vals2 r
  have e2 := k.eq r2
  subst e2
  cases r1
  obtain ⟨⟨_, _, o, es, ep, ho, hx, hdt, _⟩, _⟩ := I.hok a _ ha
  exact PySem.W.kia_one PySem.W.kitx_dict I.kIn ⟨o, ho, hx.1⟩ e (fun z => nomatch z) fun tk => ⟨.bl b, H, I.tok tk, rfl, q⟩
end Kx
/-! What the functions raise: terms, names. -/
namespace K12
open PySem PySem.Spec PyProof.Rows L2 Kx
section
variable {P : Program} {w : World} {K : PySem.W.Frag} {mg : Str → Option Value} {base : Heap}
def spCk (K : PySem.W.Frag) (C : Addr) : Sp := fun vs H Q E => ∃ (x : V) (d : PyData), vs = [x] ∧ Dz K H x d ∧ (termD d = true → ∀ H', Same H H' → Q .non H') ∧ (termD d = false → ∀ H', Same H H' → E (.ref C) none H')
theorem ok_ck (T : Tx K mg) : FnOk P w K mg base (L2.CX P w) 5 T.acheck_term T.dcheck_term ["value"] (spCk K T.CInvalidTerm) := by
  have nd := sc_check_term.nd
  have G := ok_term (P := P) (w := w) (base := base) T
  refine T.fcheck_term.okX sc_check_term (fun vs H Q E h => ?_) (fun cdv A outer s H vs Q E hr h => ?_)
  · obtain ⟨x, d, rfl, _⟩ := h
    rfl
  · obtain ⟨x, d, rfl, hx, q1, q0⟩ := h
    refine ⟨_, (pss_one (ps_if (pt_not (pt_val (pe_call G (hr.mono (by omega)) (by rfl) T.gis_term T.fis_term.kp T.nis_term .nil pass0 (pa_cons (pv 0) pa_nil)))) (pss_one (ps_raise rfl (takes_of rfl rfl rfl rfl) (pmk_own PySem.F.excBase_ValueError T.xInvalidTerm T.gInvalidTerm T.kInvalidTerm (raises_own T.bInvalidTerm T.tInvalidTerm) (by rfl)))) pss_nil)), ?_⟩
    refine ⟨_, rfl, x, d, rfl, hx, fun H' sm => ⟨_, rfl, ?_⟩⟩
    cases t : termD d with
    | false => exact iteT (q0 t H' sm)
    | true => exact iteF (q1 t H' sm)
end
/-- a list of texts that holds the same as l, each once -/
theorem once_len : ∀ (l L : List Str), L.Nodup → (∀ z, z ∈ L ↔ z ∈ l) → L.length ≤ l.length ∧ (L.length = l.length ↔ l.Nodup)
  | [], L, _, h => by
    have : L = [] := List.eq_nil_iff_forall_not_mem.mpr fun z hz => by simpa using (h z).mp hz
    subst this
    simp
  | a :: r, L, nd, h => by
    by_cases ar : a ∈ r
    · have e := once_len r L nd (fun z => by
        rw [h z, List.mem_cons]
        exact ⟨fun x => x.elim (fun e => by rw [e]; exact ar) id, .inr⟩)
      rw [List.length_cons]
      refine ⟨by omega, fun x => by omega, fun x => absurd ar (List.nodup_cons.mp x).1⟩
    · have aL : a ∈ L := (h a).mpr List.mem_cons_self
      have e := once_len r (L.erase a) (nd.erase a) (fun z => by
        rw [nd.mem_erase_iff, h z, List.mem_cons]
        constructor
        · rintro ⟨n, x | x⟩
          · exact absurd x n
          · exact x
        · exact fun x => ⟨fun y => ar (y ▸ x), .inr x⟩)
      rw [List.length_erase_of_mem aL] at e
      have pos : 0 < L.length := List.length_pos_of_mem aL
      rw [List.length_cons, List.nodup_cons]
      refine ⟨by omega, fun x => ⟨ar, e.2.mp (by omega)⟩, fun x => ?_⟩
      have := e.2.mpr x.2
      omega
theorem kit_dict : ∀ d : PyData, kitB (tyD d) "dict" = some (match d with | .dict _ => true | _ => false)
  | .none => (by decide +kernel : kitB "NoneType" "dict" = some false)
  | .bool _ => (by decide +kernel : kitB "bool" "dict" = some false)
  | .int _ => (by decide +kernel : kitB "int" "dict" = some false)
  | .str _ => (by decide +kernel : kitB "str" "dict" = some false)
  | .list _ => (by decide +kernel : kitB "list" "dict" = some false)
  | .tuple _ => (by decide +kernel : kitB "tuple" "dict" = some false)
  | .dict _ => (by decide +kernel : kitB "dict" "dict" = some true)
def isDict : PyData → Bool
  | .dict _ => true
  | _ => false
/-- an entry of a dict: its key, its value, the value as data -/
abbrev Ent := Key × V × PyData
def okEnt (e : Ent) : Bool := nameD (keyD e.1) && nameD e.2.2
def entsD (es : List Ent) : List (Key × V) := es.map fun e => (e.1, e.2.1)
/-- what is no dict from names to names -/
inductive BadNm (P : Program) (w : World) (K : PySem.W.Frag) (H : Hp) : V → Prop
  | dat {v : V} {d : PyData} : Dx K H v d → isDict d = false → BadNm P w K H v
  | dic {a : Addr} {es : List Ent} : H a = some (.dK (entsD es)) → (∀ e, e ∈ es → Dx K (OffS [a] H) e.2.1 e.2.2 ∧ (∀ y, keyD e.1 = .str y → y.length ≤ 1000) ∧ ∀ y, e.2.2 = .str y → y.length ≤ 1000) → (es.map fun e => e.1).Nodup → es.length ≤ 100 → es.all okEnt = false → BadNm P w K H (.ref a)
  | non {a : Addr} : H a = some (DNo P w a) → BadNm P w K H (.ref a)
theorem BadNm.up {P : Program} {w : World} {K : PySem.W.Frag} {H H' : Hp} {v : V} (h : BadNm P w K H v) (s : Same H H') : BadNm P w K H' v := by
  cases h with
  | dat a b => exact .dat (a.up s) b
  | dic a b c d e => exact .dic (s _ _ a) (fun x hx => ⟨(b x hx).1.up (OffS.same s), (b x hx).2⟩) c d e
  | non a => exact .non (s _ _ a)
theorem val_ents {k : Key} {v : V} {d : PyData} : ∀ {es : List Ent}, (es.map fun e => e.1).Nodup → (k, v, d) ∈ es → valV (entsD es) k = some v
  | p :: es, nd, h => by
    rw [List.map_cons, List.nodup_cons] at nd
    rcases List.mem_cons.mp h with e | h
    · subst e
      exact valV_pos rfl
    · have ne : p.1 ≠ k := fun z => nd.1 (by rw [z]; exact List.mem_map.mpr ⟨_, h, rfl⟩)
      rw [show entsD (p :: es) = (p.1, p.2.1) :: entsD es from rfl, valV_neg ne]
      exact val_ents nd.2 h
section
variable {P : Program} {w : World} {K : PySem.W.Frag} {mg : Str → Option Value} {base : Heap}
theorem look_mem {x y : Str} : ∀ {m : List (Str × Str)}, (m.map Prod.fst).Nodup → (x, y) ∈ m → look m x = some y
  | p :: m, nd, h => by
    rw [List.map_cons, List.nodup_cons] at nd
    rcases List.mem_cons.mp h with e | h
    · rw [← e, look, List.find?_cons_of_pos (by simp)]
      rfl
    · have ne : p.1 ≠ x := fun z => nd.1 (by rw [z]; exact List.mem_map.mpr ⟨_, h, rfl⟩)
      rw [look, List.find?_cons_of_neg (by simp [ne])]
      exact look_mem nd.2 h
theorem unlocked {a : Addr} {H G : Hp} {u : HO} (b : ButL [a] H G) (h : H a = some u) : Same H (upd G a u) := fun c o e => by
  by_cases z : c = a
  · rw [z, h] at e
    rw [z, upd_same]
    exact e
  · rw [upd_ne z]
    exact b c o e (by simp [z])
/-- the names that ms has, changed by m, stay apart -/
def Apart (m : List (Str × Str)) (l : List Str) : Prop := (l.map (nmOf m)).Nodup
def spRn (P : Program) (w : World) (K : PySem.W.Frag) (CN CO : Addr) : Sp := fun vs H Q E => ∃ (p : Addr) (v : V) (ms : List NK), vs = [.ref p, v] ∧ H p = some (.dK (dictOf ms)) ∧ ms.length ≤ 1000 ∧
  ((BadNm P w K H v ∧ ∀ H', Same H H' → E (.ref CN) none H') ∨ ∃ (a : Addr) (m : List (Str × Str)), v = .ref a ∧ p ≠ a ∧ H a = some (.dK (strD m)) ∧ (∀ x y, (x, y) ∈ m → isNm x = true ∧ isNm y = true) ∧ (m.map Prod.fst).Nodup ∧ m.length ≤ 1000 ∧ (Apart m (ms.map Prod.fst) → ∀ H', Same H H' → Q .non H') ∧ (¬ Apart m (ms.map Prod.fst) → ∀ H', Same H H' → E (.ref CO) none H'))
theorem ok_rn (T : Tx K mg) : FnOk P w K mg base (L2.CX P w) 2 T.acheck_renaming T.dcheck_renaming ["places", "names"] (spRn P w K T.CInvalidName T.CInvalidOperation) := by
  have nd := sc_check_renaming.nd
  have G := ok_name (P := P) (w := w) (base := base) T
  refine T.fcheck_renaming.okX sc_check_renaming (fun vs H Q E h => ?_) (fun cdv A outer s H vs Q E hr h => ?_)
  · obtain ⟨p, v, ms, rfl, _⟩ := h
    rfl
  · obtain ⟨p, v, ms, rfl, hp, lms, h⟩ := h
    have hu := hu_of hr
    refine ⟨_, (pss_cons (ps_if (PW.pt (pw_or (pt_not (pt_val (pe_callB call_isiN (by rfl) T.b_isinstance (by decide +kernel) (pa_cons (pv 1) (pa_cons (pe_bltn (v := .ty "dict") (by rfl) T.b_dict (by decide +kernel) rfl) pa_nil))))) (pw_or1 (pt_not (pt_val (pe_callB (cr_all rfl) (by rfl) T.b_all (by decide +kernel) (pa_cons (pe_lock (pe_lc (own := [("name", 2)]) (g := (gName 2)) (tt := tYes) (by rfl) nd (pi_keysN (pv 1)) (blkOk_by (own := [("name", 2)]) (N := N_check_renaming) (sc := defScope s_check_renaming) (by decide +kernel)) (fun _ _ _ _ _ => pg_name (i := 2) nd rfl (.inl rfl)) (fun _ _ _ _ _ => pts_nil) (fun _ _ _ _ _ => (pe_and (pe_call G (hr.mono (by omega)) (by rfl) T.gis_name T.fis_name.kp T.nis_name .nil pass0 (pa_cons (pv 2) pa_nil)) (pe_one (pe_call G (hr.mono (by omega)) (by rfl) T.gis_name T.fis_name.kp T.nis_name .nil pass0 (pa_cons (pe_dget hu (pv 1) (pv 2) (fun _ _ => rfl)) pa_nil))))))) pa_nil))))))) (pss_one (ps_raise rfl (takes_of rfl rfl rfl rfl) (pmk_own PySem.F.excBase_ValueError T.xInvalidName T.gInvalidName T.kInvalidName (raises_own T.bInvalidName T.tInvalidName) (by rfl)))) pss_nil)
      (pss_one (ps_if (pt_cmpR op_lt (pe_callB call_lenSK (by rfl) T.b_len (by decide +kernel) (pa_cons (pe_lock (pe_scK (own := [("name", 2)]) (g := (gName 2)) (tt := tYes) (by rfl) nd (pi_keys (pv 0)) (blkOk_by (own := [("name", 2)]) (N := N_check_renaming) (sc := defScope s_check_renaming) (by decide +kernel)) (fun _ _ _ _ _ => pg_name (i := 2) nd rfl (.inl rfl)) (fun _ _ _ _ _ => pts_nil) (fun _ _ _ _ _ => (pe_dget2 hu (pv 1) (pv 2) (pv 2) ⟨by rfl, by rfl, by rfl, by rfl⟩)))) pa_nil)) (pe_callB call_lenD (by rfl) T.b_len (by decide +kernel) (pa_cons (pv 0) pa_nil)) (nomark _)) (pss_one (ps_raise rfl (takes_of rfl rfl rfl rfl) (pmk_own PySem.F.excBase_ValueError T.xInvalidOperation T.gInvalidOperation T.kInvalidOperation (raises_own T.bInvalidOperation T.tInvalidOperation) (by rfl)))) pss_nil))), ?_⟩
    rcases h with ⟨bad, q⟩ | ⟨a, m, rfl, npa, ha, hm, ndm, lm, q1, q0⟩
    · cases bad with
      | @dat _ d hx nd2 =>
        refine ⟨v, rfl, .inl ⟨v, .ty "dict", _, _, _, rfl, .ty _, hx.ty, kit_ty (kit_dict d), _, rfl, ?_⟩⟩
        cases d with
        | dict _ => cases nd2
        | _ => exact iteT (iteT (q H (Same.refl H)))
      | @dic a es ha he nde l100 bad =>
        refine ⟨_, rfl, .inl ⟨_, .ty "dict", _, _, _, rfl, .ty _, .base (.dK ha), kit_ty (by decide +kernel : kitB "dict" "dict" = some true), _, rfl, iteF ?_⟩⟩
        refine ⟨a, .dK (entsD es), ha, trivial, fun od => ⟨_, rfl, a, od, rfl, .inl ⟨entsD es, upd_same, fun D nD => ?_⟩⟩⟩
        have eaL : (upd H a (.frz od (.dK (entsD es)))) a = some (.frz od (.dK (entsD es))) := upd_same
        have bL : ButL [a] H (upd H a (.frz od (.dK (entsD es)))) := ButL.refl.put (List.mem_singleton_self _)
        have daL : ∀ e, e ∈ es → Dx K (upd H a (.frz od (.dK (entsD es)))) e.2.1 e.2.2 := fun e m => (he e m).1.up fun b o hb => by
          obtain ⟨nb, hb⟩ := OffS.of hb
          rw [upd_ne (fun z => nb (by rw [z]; exact List.mem_singleton_self _))]
          exact hb
        generalize upd H a (.frz od (.dK (entsD es))) = L at eaL bL daL nD ⊢
        have naD : a ≠ D := ne_of_none eaL nD
        refine lc_keys (fun i G => Same L G ∧ G D = some (.lst (((es.take i).map okEnt).map V.bl))) ⟨same_put nD, upd_same⟩ (fun i G h => h.1 _ _ eaL) ?_ ?_
        · rintro i k v G hk ⟨sG, eD⟩
          rw [entsD, List.getElem?_map] at hk
          obtain ⟨⟨k2, v2, d2⟩, hxy, e⟩ := Option.map_eq_some_iff.mp hk
          cases e
          have mem := List.mem_of_getElem? hxy
          have lti : i < es.length := (List.getElem?_eq_some_iff.mp hxy).1
          obtain ⟨_, hk1, hk2⟩ := he _ mem
          have dv := daL _ mem
          refine ⟨rfl, (iteT (B := False) ?_ : if true = true then _ else False)⟩
          have fin : ∀ b : Bool, b = okEnt (k2, v2, d2) → ∃ acc, G D = some (.lst acc) ∧ acc.length < sizeLine ∧ Same L (upd G D (.lst (acc ++ [.bl b]))) ∧ (upd G D (.lst (acc ++ [.bl b]))) D = some (.lst (((es.take (i + 1)).map okEnt).map V.bl)) := by
            rintro b rfl
            refine ⟨_, eD, ?_, fun c o hc => ?_, ?_⟩
            · rw [List.length_map, List.length_map]
              exact small1000 (by rw [List.length_take]; omega)
            · rw [upd_ne (ne_of_none hc nD)]
              exact sG c o hc
            · rw [upd_same, List.take_add_one, hxy]
              simp
          refine ⟨_, rfl, _, keyD k2, rfl, ?_, fun z e => Nat.le_trans (hk1 z e) (by decide), _, rfl, ?_⟩
          · cases k2 with
            | inl i => exact .int i
            | inr x => exact .str x
          cases nk : nameD (keyD k2) with
          | false => exact iteF (fin false (by simp [okEnt, nk]))
          | true => exact iteT ⟨_, rfl, _, rfl, a, v2, rfl, .inl ⟨entsD es, k2, .inr ⟨od, sG _ _ eaL⟩, rfl, (val_ents nde mem).symm⟩, v2, d2, rfl, dv.up sG, fun z e => Nat.le_trans (hk2 z e) (by decide), fin _ (by simp [okEnt, nk])⟩
        · rintro G ⟨sG, eD⟩
          refine ⟨sG _ _ eaL, ?_⟩
          have s1 : Same H (upd G a (.dK (entsD es))) := unlocked (bL.trans (ButL.of sG)) ha
          have eD1 : (upd G a (.dK (entsD es))) D = some (.lst ((es.map okEnt).map V.bl)) := by
            rw [upd_ne naD.symm, eD, show (entsD es).length = es.length from List.length_map .., List.take_length]
          refine ⟨D, _, rfl, .inl (.inl eD1), _, rfl, ?_⟩
          rw [show (es.map okEnt).all id = false by simpa using bad]
          exact iteT (q _ s1)
      | @non a ha =>
        refine ⟨_, rfl, .inr ⟨a, .ty "dict", _, _, rfl, ha, .ty _, kit_ty (by decide +kernel : kitB "dict" "dict" = some true), _, rfl, iteF ?_⟩⟩
        refine ⟨a, DNo P w a, ha, trivial, fun od => ⟨_, rfl, a, od, rfl, .inr ⟨upd_same, fun D nD => ?_⟩⟩⟩
        have eaL : (upd H a (.frz od (DNo P w a))) a = some (.frz od (DNo P w a)) := upd_same
        have bL : ButL [a] H (upd H a (.frz od (DNo P w a))) := ButL.refl.put (List.mem_singleton_self _)
        generalize upd H a (.frz od (DNo P w a)) = L at eaL bL nD ⊢
        have naD : a ≠ D := ne_of_none eaL nD
        refine lc_it walk_keysN (fun i G => Same L G ∧ G D = some (.lst ((List.replicate i false).map V.bl))) ⟨same_put nD, upd_same⟩ (fun i G _ h => h.1 _ _ eaL) ?_ ?_
        · rintro i x G G' hi ⟨sG, eD⟩ ⟨rfl, rfl⟩
          refine ⟨rfl, (iteT (B := False) ?_ : if true = true then _ else False)⟩
          refine ⟨_, rfl, _, .none, rfl, .non, fun z e => (nomatch e), _, rfl, iteF ?_⟩
          refine ⟨_, eD, ?_, fun c o hc => ?_, ?_⟩
          · rw [List.length_map, List.length_replicate]
            exact small1000 (by have : i < 1 := hi; omega)
          · rw [upd_ne (ne_of_none hc nD)]
            exact sG c o hc
          · rw [upd_same, List.replicate_succ', List.map_append]
            rfl
        · rintro G ⟨sG, eD⟩
          refine ⟨sG _ _ eaL, ?_⟩
          have s1 : Same H (upd G a (DNo P w a)) := unlocked (bL.trans (ButL.of sG)) ha
          have eD1 : (upd G a (DNo P w a)) D = some (.lst ([false].map V.bl)) := by
            rw [upd_ne naD.symm, eD]
            rfl
          exact ⟨D, _, rfl, .inl (.inl eD1), _, rfl, iteT (q _ s1)⟩
    · refine ⟨_, rfl, .inl ⟨_, .ty "dict", _, _, _, rfl, .ty _, .base (.dK ha), kit_ty (by decide +kernel : kitB "dict" "dict" = some true), _, rfl, iteF ?_⟩⟩
      refine ⟨a, .dK (strD m), ha, trivial, fun od => ⟨_, rfl, a, od, rfl, .inl ⟨strD m, upd_same, fun D nD => ?_⟩⟩⟩
      have eaL : (upd H a (.frz od (.dK (strD m)))) a = some (.frz od (.dK (strD m))) := upd_same
      have bL : ButL [a] H (upd H a (.frz od (.dK (strD m)))) := ButL.refl.put (List.mem_singleton_self _)
      have epL : (upd H a (.frz od (.dK (strD m)))) p = some (.dK (dictOf ms)) := by rw [upd_ne npa]; exact hp
      generalize upd H a (.frz od (.dK (strD m))) = L at eaL bL epL nD ⊢
      have naD : a ≠ D := ne_of_none eaL nD
      refine lc_keys (fun i G => Same L G ∧ G D = some (.lst ((List.replicate i true).map V.bl))) ⟨same_put nD, upd_same⟩ (fun i G h => h.1 _ _ eaL) ?_ ?_
      · rintro i k v G hk ⟨sG, eD⟩
        rw [strD, List.getElem?_map] at hk
        obtain ⟨⟨x, y⟩, hxy, e⟩ := Option.map_eq_some_iff.mp hk
        cases e
        have mem := List.mem_of_getElem? hxy
        have lti : i < m.length := (List.getElem?_eq_some_iff.mp hxy).1
        obtain ⟨nx, ny⟩ := hm x y mem
        have short : ∀ {z : Str}, isNm z = true → z.length ≤ sizeLine := fun {z} h => by
          simp only [isNm, Bool.and_eq_true, decide_eq_true_eq] at h
          exact Nat.le_trans h.1.2 (by decide)
        refine ⟨rfl, (iteT (B := False) ?_ : if true = true then _ else False)⟩
        refine ⟨_, rfl, _, .str x, rfl, .str x, fun z e => by cases e; exact short nx, _, rfl, ?_⟩
        rw [show nameD (.str x) = true from nx]
        refine iteT ⟨_, rfl, _, rfl, a, .str y, rfl, .inl ⟨strD m, .inr x, .inr ⟨od, sG _ _ eaL⟩, rfl, ?_⟩, _, .str y, rfl, .str y, fun z e => by cases e; exact short ny, ?_⟩
        · rw [val_strD, look_mem ndm mem]
          rfl
        · refine ⟨_, eD, ?_, fun c o hc => ?_, ?_⟩
          · rw [List.length_map, List.length_replicate]
            exact small1000 (by omega)
          · rw [upd_ne (ne_of_none hc nD)]
            exact sG c o hc
          · rw [upd_same, show nameD (.str y) = true from ny, List.replicate_succ', List.map_append]
            rfl
      · rintro G ⟨sG, eD⟩
        refine ⟨sG _ _ eaL, ?_⟩
        have s1 : Same H (upd G a (.dK (strD m))) := unlocked (bL.trans (ButL.of sG)) ha
        have eD1 : (upd G a (.dK (strD m))) D = some (.lst ((List.replicate (strD m).length true).map V.bl)) := by
          rw [upd_ne naD.symm]
          exact eD
        generalize upd G a (.dK (strD m)) = H1 at s1 eD1 ⊢
        refine ⟨D, _, rfl, .inl (.inl eD1), _, rfl, ?_⟩
        rw [show (List.replicate (strD m).length true).all id = true by simp]
        refine iteF ?_
        -- the second test
        have hp1 := s1 _ _ hp
        have ha1 := s1 _ _ ha
        refine ⟨p, .dK (dictOf ms), hp1, trivial, fun od => ⟨_, rfl, p, od, rfl, .inl ⟨dictOf ms, upd_same, fun D2 nD2 => ?_⟩⟩⟩
        have epL : (upd H1 p (.frz od (.dK (dictOf ms)))) p = some (.frz od (.dK (dictOf ms))) := upd_same
        have bL2 : ButL [p] H1 (upd H1 p (.frz od (.dK (dictOf ms)))) := ButL.refl.put (List.mem_singleton_self _)
        have eaL2 : (upd H1 p (.frz od (.dK (dictOf ms)))) a = some (.dK (strD m)) := by rw [upd_ne npa.symm]; exact ha1
        generalize upd H1 p (.frz od (.dK (dictOf ms))) = L2' at epL bL2 eaL2 nD2 ⊢
        have npD : p ≠ D2 := ne_of_none epL nD2
        refine sck_keys (fun i G2 => Same L2' G2 ∧ ∃ (L : List Str) (S : Key → Bool), G2 D2 = some (L2.SetK P w D2 S L.length) ∧ L.Nodup ∧ (∀ k, S k = decide (∃ z, z ∈ L ∧ k = Sum.inr z)) ∧ L.length ≤ i ∧ ∀ z, z ∈ L ↔ z ∈ ((ms.take i).map Prod.fst).map (nmOf m))
          ⟨same_put nD2, [], fun _ => false, upd_same, List.nodup_nil, fun k => by simp, Nat.zero_le _, fun z => by simp⟩ (fun i G2 h => h.1 _ _ epL) ?_ ?_
        · rintro i k v G2 hk ⟨sG2, L, S, eD2, ndL, hS, lL, mL⟩
          rw [dictOf, List.getElem?_map] at hk
          obtain ⟨⟨x, n⟩, hxn, e⟩ := Option.map_eq_some_iff.mp hk
          cases e
          have lti : i < ms.length := (List.getElem?_eq_some_iff.mp hxn).1
          refine ⟨rfl, (iteT (B := False) ?_ : if true = true then _ else False)⟩
          refine ⟨_, rfl, a, rfl, .inl ⟨_, .inl (sG2 _ _ eaL2)⟩, _, rfl, _, rfl, _, .inl ⟨strD m, .inr x, .inl (sG2 _ _ eaL2), rfl, rfl⟩, .inr (nmOf m x), S, L.length, ?_, eD2, Nat.lt_of_le_of_lt (show L.length + 1 ≤ 1001 by omega) (by decide), fun c o hc => ?_, ?_⟩
          · rw [val_strD]
            exact look_getD m x
          · rw [upd_ne (ne_of_none hc nD2)]
            exact sG2 c o hc
          · have et : ((ms.take (i + 1)).map Prod.fst).map (nmOf m) = ((ms.take i).map Prod.fst).map (nmOf m) ++ [nmOf m x] := by
              rw [List.take_add_one, hxn]
              simp
            by_cases inL : nmOf m x ∈ L
            · have e1 : S (.inr (nmOf m x)) = true := by
                rw [hS]
                exact decide_eq_true ⟨_, inL, rfl⟩
              refine ⟨L, fun j => S j || decide (j = Sum.inr (nmOf m x)), by rw [upd_same, if_pos e1]; rfl, ndL, fun k => ?_, by omega, fun z => ?_⟩
              · show (S k || decide (k = Sum.inr (nmOf m x))) = _
                rw [hS]
                by_cases e : k = Sum.inr (nmOf m x)
                · rw [e]
                  simp [inL]
                · simp [e]
              · rw [et, List.mem_append, ← mL, List.mem_singleton]
                exact ⟨.inl, fun h => h.elim id fun e => by rw [e]; exact inL⟩
            · have e1 : ¬ S (.inr (nmOf m x)) = true := by
                rw [hS]
                simp [inL]
              refine ⟨L ++ [nmOf m x], fun j => S j || decide (j = Sum.inr (nmOf m x)), by rw [upd_same, if_neg e1, List.length_append]; rfl, ?_, fun k => ?_, by rw [List.length_append, List.length_singleton]; omega, fun z => ?_⟩
              · rw [List.nodup_append]
                refine ⟨ndL, by simp, fun c hc b hb => ?_⟩
                rw [List.mem_singleton.mp hb]
                rintro rfl
                exact inL hc
              · show (S k || decide (k = Sum.inr (nmOf m x))) = _
                rw [hS, ← Bool.decide_or, decide_eq_decide]
                constructor
                · rintro (⟨z, h1, h2⟩ | h)
                  · exact ⟨z, List.mem_append_left _ h1, h2⟩
                  · exact ⟨_, by simp, h⟩
                · rintro ⟨z, h1, h2⟩
                  rcases List.mem_append.mp h1 with h1 | h1
                  · exact .inl ⟨z, h1, h2⟩
                  · rw [List.mem_singleton.mp h1] at h2
                    exact .inr h2
              · rw [et, List.mem_append, List.mem_append, mL]
        · rintro G2 ⟨sG2, L, S, eD2, ndL, hS, lL, mL⟩
          refine ⟨sG2 _ _ epL, ?_⟩
          have s2 : Same H1 (upd G2 p (.dK (dictOf ms))) := unlocked (bL2.trans (ButL.of sG2)) hp1
          have eD3 : (upd G2 p (.dK (dictOf ms))) D2 = some (L2.SetK P w D2 S L.length) := by
            rw [upd_ne npD.symm]
            exact eD2
          generalize upd G2 p (.dK (dictOf ms)) = H2 at s2 eD3 ⊢
          have ld : (dictOf ms).length = ms.length := List.length_map ..
          rw [ld, List.take_length] at mL
          have fin := once_len ((ms.map Prod.fst).map (nmOf m)) L ndL mL
          rw [List.length_map, List.length_map] at fin
          refine ⟨D2, S, L.length, rfl, eD3, _, rfl, p, dictOf ms, rfl, s2 _ _ hp1, _, _, rfl, rfl, _, rfl, ?_⟩
          rw [ld]
          by_cases ap : Apart m (ms.map Prod.fst)
          · have e1 := fin.2.mpr ap
            rw [show decide ((L.length : Int) < (ms.length : Int)) = false from decide_eq_false (by omega)]
            exact iteF (q1 ap H2 (s1.trans s2))
          · have e1 : L.length ≠ ms.length := fun z => ap (fin.2.mp z)
            rw [show decide ((L.length : Int) < (ms.length : Int)) = true from decide_eq_true (by omega)]
            exact iteT (q0 ap H2 (s1.trans s2))
end
end K12
/-! sorted(d), d with tuples for keys; data < data. -/
namespace Kx
open PySem PySem.Spec PyProof.Rows L2
def tupD (k : List Key) : PyData := .tuple (k.map keyD)
theorem dx_keys {K : PySem.W.Frag} {H : Hp} : ∀ ks : List Key, DxAll K H (ks.map kV) (ks.map keyD)
  | [] => .nil
  | .inl i :: ks => .cons (.int i) (dx_keys ks)
  | .inr x :: ks => .cons (.str x) (dx_keys ks)
theorem depth_keys : ∀ ks : List Key, PyData.depthAll (ks.map keyD) ≤ 1
  | [] => by simp [PyData.depthAll]
  | .inl i :: ks => by
    have := depth_keys ks
    simp only [List.map_cons, PyData.depthAll, keyD, PyData.depth]
    omega
  | .inr x :: ks => by
    have := depth_keys ks
    simp only [List.map_cons, PyData.depthAll, keyD, PyData.depth]
    omega
theorem reads_keys {h : Heap} : ∀ (ks : List Key) (us : List Value) (as : List Addr), ReadsAll h us (ks.map keyD) as → as = []
  | [], _, _, r => by cases r; rfl
  | .inl i :: ks, _, _, r => by
    cases r with
    | cons a b =>
      cases a
      rw [reads_keys ks _ _ b]
      rfl
  | .inr x :: ks, _, _, r => by
    cases r with
    | cons a b =>
      cases a
      rw [reads_keys ks _ _ b]
      rfl
theorem readsAll_push {h : Heap} {o : Obj} : ∀ (ks : List Key) (us : List Value), ReadsAll h us (ks.map keyD) [] → ReadsAll (h.push o) us (ks.map keyD) []
  | [], _, r => by cases r; exact .nil
  | k :: ks, us, r => PyProof.Rows.ReadsAll.keeps (fun _ _ e => Heap.get?_push_of_some _ e) r
/-- its keys in their order, each its own tuple -/
abbrev KItem := Addr × List Key
def rSortKT (K : PySem.W.Frag) : List V → Hp → VK → Prop := fun xs H Q => ∃ (a : Addr) (kvs : List (List Key × V)), xs = [.ref a] ∧ H a = some (.dT kvs) ∧ PySem.W.AllAlike (kvs.map fun p => tupD p.1) ∧ (∀ p, p ∈ kvs → p.1 ≠ []) ∧
  ∀ (zs : List KItem) p, H p = none → zs.map Prod.snd = kvs.map Prod.fst → (∀ z, z ∈ zs → H z.1 = some (.tup (z.2.map kV))) → Q (.ref p) (upd H p (.lst ((zs.mergeSort (PySem.W.dataLe false fun z => tupD z.2)).map fun z => V.ref z.1)))
section
variable {X : Cx}
theorem cr_sortedKT (hc : X.calm = true) (hu : X.A.units + 64 < cLine) : CallR X (.builtin "sorted") (rSortKT X.K) := by
  intro pins s σ H xs us Q I r h
  obtain ⟨d, kvs, rfl, hd, al, nn, q⟩ := h
  obtain ⟨u, rfl, rx⟩ := r.one
  cases rx
  obtain ⟨z, hs, ks, pr, o, es, ep, ho, hx, hdt, he, hn⟩ := (show ObjOk X.prog X.w H s.heap d (.dT kvs) from I.hok d _ hd)
  have l1 : es.size = ks.length := size_of_entries he
  have l2 : kvs.length = ks.length := Paired.length pr
  refine Calls.call_function_entry PyProof.Rows.kind_sorted PyProof.Rows.plain_sorted PyProof.Rows.entry_sorted (PyProof.Rows.args_sorted1 _) ?_
  unfold Builtin.«sorted»
  refine wpAny_bind (m := checkCount "sorted" 1 1 _) (wpAny_pure ?_)
  refine wpAny_bind (PySem.W.kdu_collect (A := X.A.in1) (kdl_raw hs hx hdt) (I.ok.hd hc) ho (by omega) fun h' tk acc hk it => ?_)
  have ea : acc.toList = ks.map fun x => Value.ref x.2.1 := by
    have hl : acc.toList.length = ks.length := by rw [Array.length_toList, it.1]; exact l1
    apply List.ext_getElem?
    intro j
    rw [List.getElem?_map]
    cases hj : acc.toList[j]? with
    | none =>
      have h1 := List.getElem?_eq_none_iff.mp hj
      rw [List.getElem?_eq_none (by omega)]
      rfl
    | some v =>
      obtain ⟨en, hen, hv⟩ := it.2 j v (by rw [← Array.getElem?_toList]; exact hj)
      have qe := entry_at he j
      rw [hen] at qe
      cases hb : ks[j]? with
      | none =>
        rw [hb] at qe
        exact nomatch (show some en = none from qe)
      | some b =>
        rw [hb] at qe
        have e2 : en = entryOfKey (tupleKind (mixKind X.prog X.w)) b := Option.some.inj qe
        rw [hv, e2]
        rfl
  have I1 : Inv X pins σ H { s with heap := h', toks := tk } := I.kept hk
  have lz : ks.length ≤ sizeLine := by omega
  refine wpAny_bind (wpAny_newList ?_ (by rw [ea, List.length_map]; exact lz))
  have hoL : (h'.push (seqObj "list" acc.toList.toArray 0)).get? h'.objs.size = some (seqObj "list" acc.toList.toArray 0) := Heap.get?_push_size _ rfl
  show wpAny _ _ _ _ _ { s with heap := h'.push (seqObj "list" acc.toList.toArray 0), toks := tk }
  have I2 : Inv X pins σ H { s with heap := h'.push (seqObj "list" acc.toList.toArray 0), toks := tk } := I.kept fun b o e => Heap.get?_push_of_some _ (hk b o e)
  obtain ⟨zs, ezs⟩ : ∃ zs : List KItem, zs = ks.map fun x => ((x.2.1, x.1) : KItem) := ⟨_, rfl⟩
  have hz : ∀ z, z ∈ zs → H z.1 = some (.tup (z.2.map kV)) := by
    intro z hz
    rw [ezs] at hz
    obtain ⟨x, hx, rfl⟩ := List.mem_map.mp hz
    have : ∀ (kvs : List (List Key × V)) (ks : List (List Key × Addr × Value)), Paired (fun (p : List Key × V) (q : List Key × Addr × Value) => p.1 = q.1 ∧ H q.2.1 = some (.tup (p.1.map kV)) ∧ RelV p.2 q.2.2) kvs ks → ∀ x, x ∈ ks → H x.2.1 = some (.tup (x.1.map kV)) := by
      intro kvs ks h
      induction h with
      | nil => intro x hx; cases hx
      | cons r t ih =>
        intro x hx
        rcases List.mem_cons.mp hx with rfl | hx
        · rw [← r.1]
          exact r.2.1
        · exact ih x hx
    exact this kvs ks pr x hx
  have hzk : zs.map Prod.snd = kvs.map Prod.fst := by
    have : ∀ (kvs : List (List Key × V)) (ks : List (List Key × Addr × Value)), Paired (fun (p : List Key × V) (q : List Key × Addr × Value) => p.1 = q.1 ∧ H q.2.1 = some (.tup (p.1.map kV)) ∧ RelV p.2 q.2.2) kvs ks → (ks.map fun x => ((x.2.1, x.1) : KItem)).map Prod.snd = kvs.map Prod.fst := by
      intro kvs ks h
      induction h with
      | nil => rfl
      | cons r t ih =>
        rw [List.map_cons, List.map_cons, List.map_cons, ih, r.1]
    rw [ezs]
    exact this kvs ks pr
  have each : ∀ (zs : List KItem), (∀ z, z ∈ zs → H z.1 = some (.tup (z.2.map kV))) → PySem.W.EachIs (fun u (p : KItem) => u = Value.ref p.1 ∧ ∃ as, Reads (h'.push (seqObj "list" acc.toList.toArray 0)) u (tupD p.2) as ∧ h'.objs.size ∉ as) (zs.map fun z => Value.ref z.1) zs := by
    intro zs
    induction zs with
    | nil => intro _; exact .nil
    | cons p zs ih =>
      intro hz
      refine .cons ⟨rfl, ?_⟩ (ih fun q hq => hz q (List.mem_cons_of_mem _ hq))
      obtain ⟨as, rd, _⟩ := Dx.reads I1 (tupD p.2) (.ref p.1) (.ref p.1) (.tup (hz p List.mem_cons_self) (dx_keys p.2)) rfl
      cases rd with
      | tuple h1 h2 h3 h4 =>
        have z := reads_keys p.2 _ _ h4
        subst z
        exact ⟨[], Reads.tuple (Heap.get?_push_of_some _ h1) h2 h3 (readsAll_push p.2 _ h4), fun z => nomatch z⟩
  have e := each zs hz
  have ez : zs.map (fun z => Value.ref z.1) = acc.toList := by
    rw [ezs, ea, List.map_map]
    rfl
  rw [ez] at e
  have lzs : zs.length = ks.length := by rw [ezs]; exact List.length_map ..
  have alz : PySem.W.AllAlike (zs.map fun z => tupD z.2) := by
    have : zs.map (fun z => tupD z.2) = kvs.map fun p => tupD p.1 := by
      have e1 : (zs.map Prod.snd).map tupD = zs.map fun z => tupD z.2 := List.map_map ..
      have e2 : (kvs.map Prod.fst).map tupD = kvs.map fun p => tupD p.1 := List.map_map ..
      rw [← e1, ← e2, hzk]
    rw [this]
    exact al
  have so : PySem.W.Sortable (zs.map fun z => tupD z.2) := .inl fun dd hdd => by
    obtain ⟨z, hzz, rfl⟩ := List.mem_map.mp hdd
    have : z.2 ∈ kvs.map Prod.fst := by rw [← hzk]; exact List.mem_map.mpr ⟨z, hzz, rfl⟩
    obtain ⟨p, hp, e2⟩ := List.mem_map.mp this
    have nz : z.2 ≠ [] := by rw [← e2]; exact nn p hp
    cases hz2 : z.2 with
    | nil => exact absurd hz2 nz
    | cons a b => exact ⟨keyD a, b.map keyD, rfl⟩
  refine wpAny_bind (wpAny_holding (PySem.W.list_sort_data (enc := fun z : KItem => tupD z.2) hoL (e.mono fun _ _ h => h.1) (e.mono fun _ _ h => h.2) alz so (by rw [lzs]; exact lz) (fun b hb => ?_) fun out lo eo => ?_))
  · have := depth_keys b.2
    have e1 : (tupD b.2).depth ≤ 2 := by
      simp only [tupD, PyData.depth]
      omega
    show X.A.units + 1 + 1 + (tupD b.2).depth < cLine
    omega
  obtain ⟨e', he'⟩ := PyProof.Rows.sortedHeap_at (vs := acc.toList) (out := out.toArray) hoL
  have back : ∀ {out : List Value} {ys : List KItem}, PySem.W.EachIs (fun u (p : KItem) => u = Value.ref p.1) out ys → Vals (ys.map fun z => V.ref z.1) out := by
    intro out ys h
    induction h with
    | nil => exact .nil
    | cons h _ ih => exact .cons h ih
  have ln : ((zs.mergeSort (PySem.W.dataLe false fun z => tupD z.2)).map fun z => V.ref z.1).length ≤ sizeLine := by
    rw [List.length_map, List.length_mergeSort, lzs]
    exact lz
  refine wpAny_pure ⟨_, rfl, .ref h'.objs.size, upd H h'.objs.size (.lst ((zs.mergeSort (PySem.W.dataLe false fun z => tupD z.2)).map fun z => V.ref z.1)), I1.laid (t' := tk) (fun b u e => ?_) (Nat.le_refl _)
    (show ObjOk X.prog X.w _ _ _ (.lst _) from ⟨ln, out, e', back eo, he'⟩), rfl, q zs _ (I1.hok.fresh (Nat.le_refl _)) hzk hz⟩
  have hb : b < h'.objs.size := Heap.lt_size e
  rw [PyProof.Rows.sortedHeap_old (Nat.ne_of_lt hb) (by rw [size_push']; exact Nat.lt_succ_of_lt hb)]
  exact Heap.get?_push_of_some _ e
/-- data < data -/
def rLtD (K : PySem.W.Frag) : V → V → Hp → VK → Prop := fun x y H Q => ∃ da db, Dx K H x da ∧ Dx K H y db ∧ PySem.W.alike da db = true ∧ da ≠ .none ∧ da.depth ≤ 60 ∧ Q (.bl (PySem.W.dataLt da db)) H
theorem op_ltD (hu : X.A.units + 64 < cLine) : OpR X (compareOp .Lt) (rLtD X.K) := by
  intro pins s σ H x y u v Q I rx ry h
  obtain ⟨da, db, dx, dy, al, nn, dp, q⟩ := h
  obtain ⟨as, ra, _⟩ := Dx.reads I da x u dx rx
  obtain ⟨bs, rb, _⟩ := Dx.reads I db y v dy ry
  exact PySem.W.lt_data ra rb al nn (by omega) ⟨.bl _, H, I, rfl, q⟩
end
end Kx
/-! Couples. -/
namespace K12
open PySem PySem.Spec PyProof.Rows L2 Kx
def sidesOf : PyData → List PyData
  | .tuple [a, b] => [a, b]
  | _ => []
def coupleD : PyData → Bool
  | .tuple [_, _] => true
  | _ => false
def sidesD (ds : List PyData) : List PyData := ds.flatMap sidesOf
def couplesD (ds : List PyData) : Bool := ds.all coupleD && jointD (sidesD ds)
theorem couple_eq {d : PyData} (h : coupleD d = true) : ∃ a b, d = .tuple [a, b] := by
  match d, h with
  | .tuple [a, b], _ => exact ⟨a, b, rfl⟩
theorem dx_couple {K : PySem.W.Frag} {H : Hp} {v : V} {a b : PyData} (h : Dx K H v (.tuple [a, b])) : ∃ (p : Addr) (x y : V), v = .ref p ∧ H p = some (.tup [x, y]) ∧ Dx K H x a ∧ Dx K H y b := by
  cases h with
  | @tup p xs _ hp hx =>
    cases hx with
    | cons h1 h2 => cases h2 with
      | cons h2 h3 =>
        cases h3
        exact ⟨p, _, _, rfl, hp, h1, h2⟩
mutual
theorem wt_sz : ∀ d : PyData, wt d + 1 ≤ 3 * szD d
  | .none | .bool _ | .int _ | .str _ | .list _ | .dict _ => by simp [wt, szD]
  | .tuple ds => by
    have := wtA_sz ds
    simp only [wt, szD]
    omega
theorem wtA_sz : ∀ ds : List PyData, wtA ds ≤ 3 * szAll ds
  | [] => by simp [wtA, szAll]
  | d :: ds => by
    have := wt_sz d
    have := wtA_sz ds
    simp only [wtA, szAll]
    omega
end
theorem nm_len (d : PyData) (h : nameD d = true) : (nmC d).length ≤ 8 := by
  cases d with
  | str x =>
    have h : isNm x = true := h
    simp only [isNm, Bool.and_eq_true, decide_eq_true_eq] at h
    show x.cps.toList.length ≤ 8
    rw [Array.length_toList]
    exact h.1.2
  | _ => cases h
mutual
theorem tx_sz : ∀ d : PyData, formedD d = true → (tx d).length + 1 ≤ 11 * szD d
  | .none, h | .bool _, h | .int _, h | .str _, h | .list _, h | .dict _, h => by cases h
  | .tuple [], h => by cases h
  | .tuple (d :: []), h => by
    simp only [formedD, Bool.and_eq_true] at h
    have := nm_len d h.1.2
    simp only [tx, txA, List.append_nil, szD, szAll]
    have : szD d ≥ 1 := szD_pos d
    omega
  | .tuple (d :: e :: es), h => by
    simp only [formedD, formedAll, Bool.and_eq_true] at h
    have := nm_len d h.1.2
    have := tx_sz e h.2.1
    have := txM_sz es h.2.2
    have : szD d ≥ 1 := szD_pos d
    simp only [tx, txA, List.length_append, List.length_cons, List.length_nil, szD, szAll]
    omega
theorem txM_sz : ∀ ds : List PyData, formedAll ds = true → (txM ds).length ≤ 11 * szAll ds
  | [], _ => by simp [txM, szAll]
  | d :: ds, h => by
    simp only [formedAll, Bool.and_eq_true] at h
    have := tx_sz d h.1
    have := txM_sz ds h.2
    simp only [txM, List.length_append, List.length_cons, szAll]
    omega
end
/-- the text may be written -/
structure Wr (d : PyData) : Prop where
  f : formedD d = true
  w : wt d ≤ 100000
  t : (tx d).length ≤ 1000000
theorem wr_of {d : PyData} (h : formedD d = true) (z : szD d ≤ 10000) : Wr d := by
  have := wt_sz d
  have := tx_sz d h
  exact ⟨h, by omega, by omega⟩
section
variable {P : Program} {w : World} {K : PySem.W.Frag} {mg : Str → Option Value} {base : Heap}
def spKey (K : PySem.W.Frag) : Sp := fun vs H Q _ => ∃ (c : Addr) (x y : V) (a b : PyData), vs = [.ref c] ∧ H c = some (.tup [x, y]) ∧ Dx K H x a ∧ Dx K H y b ∧ Wr a ∧ Wr b ∧ ∀ p H', Same H H' → H p = none → H' p = some (.tup [.str (tS (tx a)), .str (tS (tx b))]) → Q (.ref p) H'
theorem ok_key (T : Tx K mg) : FnOk P w K mg base CX0 2 T.akey_of T.dkey_of ["couple"] (spKey K) := by
  have nd := sc_key_of.nd
  have G := ok_wr (P := P) (w := w) (base := base) T
  refine T.fkey_of.ok sc_key_of (fun vs H Q E h => ?_) (fun cdv A outer s H vs Q E hr h => ?_)
  · obtain ⟨c, x, y, a, b, rfl, _⟩ := h
    rfl
  obtain ⟨c, x, y, a, b, rfl, hc, hx, hy, wa, wb, q⟩ := h
  refine ⟨_, (pss_one (ps_ret (pe_tup (pa_cons (pe_call G (hr.mono (by omega)) (by rfl) T.gwritten T.fwritten.kp T.nwritten .nil pass0 (pa_cons (pe_ix ix_tup (pv 0) pe_int (fun _ _ => rfl)) pa_nil)) (pa_cons (pe_call G (hr.mono (by omega)) (by rfl) T.gwritten T.fwritten.kp T.nwritten .nil pass0 (pa_cons (pe_ix ix_tup (pv 0) pe_int (fun _ _ => rfl)) pa_nil)) pa_nil))))), ?_⟩
  refine ⟨_, rfl, c, _, 0, x, rfl, rfl, SqT.of hc, atI_nat (j := 0) rfl, x, a, rfl, hx, wa.f, wa.w, wa.t, fun H1 s1 => ?_⟩
  refine ⟨_, rfl, c, _, 1, y, rfl, rfl, SqT.of (s1 _ _ hc), atI_nat (j := 1) rfl, y, b, rfl, hy.up s1, wb.f, wb.w, wb.t, fun H2 s2 => ?_⟩
  refine ⟨by show 2 ≤ sizeLine; decide, fun p np => ?_⟩
  refine q p _ (s1.trans (s2.trans (same_put np))) ?_ upd_same
  cases e : H p with
  | none => rfl
  | some o =>
    rw [s2 _ _ (s1 _ _ e)] at np
    cases np
/-- the first side's text comes first -/
def ordD (a b : PyData) : Bool := decide (tx a < tx b)
def ordC : PyData → Bool
  | .tuple [a, b] => ordD a b
  | _ => false
def spOrd (K : PySem.W.Frag) : Sp := fun vs H Q _ => ∃ (c : Addr) (x y : V) (a b : PyData), vs = [.ref c] ∧ H c = some (.tup [x, y]) ∧ Dx K H x a ∧ Dx K H y b ∧ Wr a ∧ Wr b ∧ ∀ H', Same H H' → Q (.bl (ordD a b)) H'
theorem ok_ord (T : Tx K mg) : FnOk P w K mg base CX0 3 T.ais_ordered T.dis_ordered ["couple"] (spOrd K) := by
  have nd := sc_is_ordered.nd
  have G := ok_key (P := P) (w := w) (base := base) T
  refine T.fis_ordered.ok sc_is_ordered (fun vs H Q E h => ?_) (fun cdv A outer s H vs Q E hr h => ?_)
  · obtain ⟨c, x, y, a, b, rfl, _⟩ := h
    rfl
  obtain ⟨c, x, y, a, b, rfl, hc, hx, hy, wa, wb, q⟩ := h
  refine ⟨_, (pss_cons (ps_asg (pe_call G (hr.mono (by omega)) (by rfl) T.gkey_of T.fkey_of.kp T.nkey_of .nil pass0 (pa_cons (pv 0) pa_nil)) (pg_tup rfl (pgs_cons (pg_name (i := 1) nd rfl (.inl rfl)) (pgs_cons (pg_name (i := 2) nd rfl (.inl rfl)) pgs_nil))))
      (pss_one (ps_ret (pe_cmpR op_lt_str (pv 1) (pv 2) (nomark _))))), ?_⟩
  refine ⟨_, rfl, c, x, y, a, b, rfl, hc, hx, hy, wa, wb, fun p H1 s1 np hp => ?_⟩
  refine ⟨p, _, rfl, .inl (.inl hp), rfl, ?_⟩
  exact ⟨_, _, rfl, _, _, rfl, rfl, _, rfl, _, rfl, _, _, rfl, rfl, q H1 s1⟩
def spCp (K : PySem.W.Frag) : Sp := fun vs H Q _ => ∃ (x : V) (d : PyData), vs = [x] ∧ Dx K H x d ∧ Q (.bl (coupleD d)) H
theorem ok_cp (T : Tx K mg) : FnOk P w K mg base CX0 1 T.ais_couple T.dis_couple ["value"] (spCp K) := by
  have nd := sc_is_couple.nd
  refine T.fis_couple.ok sc_is_couple (fun vs H Q E h => ?_) (fun cdv A outer s H vs Q E hr h => ?_)
  · obtain ⟨x, d, rfl, _⟩ := h
    rfl
  obtain ⟨x, d, rfl, hx, q⟩ := h
  refine ⟨_, (pss_one (ps_ret (pe_and (pe_callB call_isi (by rfl) T.b_isinstance (by decide +kernel) (pa_cons (pv 0) (pa_cons (pe_bltn (v := .ty "tuple") (by rfl) T.b_tuple (by decide +kernel) rfl) pa_nil))) (pe_one (pe_cmpR op_eq (pe_callB call_len_seq (by rfl) T.b_len (by decide +kernel) (pa_cons (pv 0) pa_nil)) pe_int (nomark _)))))), ?_⟩
  refine ⟨_, rfl, x, .ty "tuple", _, _, _, rfl, .ty _, hx.ty, kit_ty (kit_tuple d), _, rfl, ?_⟩
  match d, hx, q with
  | .tuple ds, hx, q =>
    cases hx with
    | @tup p xs _ hp hs =>
    have ll := hs.length
    refine iteT ⟨_, rfl, p, xs, rfl, .inr (SqT.of hp), rfl, ?_⟩
    have e : coupleD (.tuple ds) = decide (V.int (xs.length : Int) = V.int 2) := by
      rw [ll]
      match ds with
      | [] => rfl
      | [_] => rfl
      | [_, _] => rfl
      | a :: b :: c :: r =>
        rw [show coupleD (.tuple (a :: b :: c :: r)) = false from rfl]
        refine (decide_eq_false fun z => ?_).symm
        have := V.int.inj z
        simp only [List.length_cons] at this
        omega
    rw [e] at q
    exact q
  | .none, _, q | .bool _, _, q | .int _, _, q | .str _, _, q | .list _, _, q | .dict _, _, q => exact iteF q
end
end K12
/-! The sides of couples. -/
namespace K12
open PySem PySem.Spec PyProof.Rows L2 Kx
theorem sidesD_take {ds : List PyData} {i : Nat} {d : PyData} (h : ds[i]? = some d) : sidesD (ds.take (i + 1)) = sidesD (ds.take i) ++ sidesOf d := by
  rw [List.take_add_one, h]
  simp [sidesD]
theorem sidesD_len : ∀ ds : List PyData, (sidesD ds).length ≤ 2 * ds.length
  | [] => by simp [sidesD]
  | d :: ds => by
    have := sidesD_len ds
    have h1 : (sidesOf d).length ≤ 2 := by
      match d with
      | .tuple [a, b] => exact Nat.le_refl 2
      | .tuple [] => simp [sidesOf]
      | .tuple [_] => simp [sidesOf]
      | .tuple (_ :: _ :: _ :: _) => simp [sidesOf]
      | .none | .bool _ | .int _ | .str _ | .list _ | .dict _ => simp [sidesOf]
    simp only [sidesD, List.flatMap_cons, List.length_append, List.length_cons] at *
    omega
section
variable {P : Program} {w : World} {K : PySem.W.Frag} {mg : Str → Option Value} {base : Heap}
def spSides (K : PySem.W.Frag) : Sp := fun vs H Q _ => ∃ (l : Addr) (xs : List V) (ds : List PyData), vs = [.ref l] ∧ SqL K H l xs ∧ DxAll K H xs ds ∧ ds.all coupleD = true ∧ ds.length ≤ 300 ∧
  ∀ p ys H', Same H H' → H' p = some (.lst ys) → DxAll K H' ys (sidesD ds) → Q (.ref p) H'
theorem ok_sides (T : Tx K mg) : FnOk P w K mg base CX0 1 T.asides_of T.dsides_of ["couples"] (spSides K) := by
  have nd := sc_sides_of.nd
  refine T.fsides_of.ok sc_sides_of (fun vs H Q E h => ?_) (fun cdv A outer s H vs Q E hr h => ?_)
  · obtain ⟨l, xs, ds, rfl, _⟩ := h
    rfl
  obtain ⟨l, xs, ds, rfl, hl, hx, hc, few, q⟩ := h
  refine ⟨_, (pss_one (ps_ret (pe_lc2 (own := [("couple", 1), ("term", 2)]) (vs1 := [2]) (g := (gName 1)) (g1 := (gName 2)) (wi1 := iTup K (tVar 1)) (tt := tYes) (tt1 := tYes) (by rfl) nd (pi_list (pv 0)) (blkOk_by (own := [("couple", 1), ("term", 2)]) (N := N_sides_of) (sc := defScope s_sides_of) (by decide +kernel)) (by decide) (fun _ _ _ _ _ => pg_name (i := 1) nd rfl (.inl rfl)) (fun _ _ _ _ _ => pts_nil) (fun _ _ _ _ _ => pi_tup (pv 1)) (fun _ _ _ _ _ => pg_name (i := 2) nd rfl (.inl rfl)) (fun _ _ _ _ _ => pts_nil) (fun _ _ _ _ _ => (pv 2))))), ?_⟩
  refine ⟨_, rfl, l, rfl, ⟨_, hl⟩, fun D nD => ?_⟩
  have lx := hx.length
  let Pv : Nat → Hp → Prop := fun i G => Same H G ∧ ∃ ys, G D = some (.lst ys) ∧ DxAll K H ys (sidesD (ds.take i))
  refine ⟨fun i m G => m = xs.length - i ∧ i ≤ xs.length ∧ Pv i G, ⟨xs.length, by simp, Nat.zero_le _, same_put nD, [], upd_same, .nil⟩, ?_⟩
  rintro i m G ⟨rfl, hi, sG, ys, eD, dy⟩
  by_cases hlt : i < xs.length
  · refine .inr ⟨⟨xs, xs[i], sG.seq hl, by simp [hlt]⟩, Pv (i + 1), fun H' p' => ⟨xs.length - (i + 1), by omega, rfl, hlt, p'⟩, fun x H' y => ?_⟩
    obtain ⟨e, y⟩ := y
    subst e
    have hxi := y xs (sG.seq hl)
    have gd := List.getElem?_eq_getElem (show i < ds.length by omega)
    obtain ⟨v, hv, dv⟩ := hx.get gd
    rw [hxi] at hv
    cases hv
    have cd : coupleD ds[i] = true := List.all_eq_true.mp hc _ (List.getElem_mem _)
    obtain ⟨a, b, eab⟩ := couple_eq cd
    rw [eab] at dv gd
    obtain ⟨p, u, v, rfl, hp, du, dv2⟩ := dx_couple dv
    refine ⟨rfl, (iteT (B := Pv (i + 1) H') ?_ : if true = true then _ else Pv (i + 1) H')⟩
    refine ⟨_, rfl, p, rfl, ⟨_, SqT.of (sG _ _ hp)⟩, ?_⟩
    let Nx : Nat → Hp → Prop := fun j G => j ≤ 2 ∧ Same H G ∧ ∃ ys, G D = some (.lst ys) ∧ DxAll K H ys (sidesD (ds.take i) ++ [a, b].take j)
    refine ⟨fun j k G2 => k = 2 - j ∧ Nx j G2, ⟨2, rfl, by omega, sG, ys, eD, by simpa using dy⟩, ?_⟩
    rintro j k G2 ⟨rfl, hj, sG2, ys2, eD2, dy2⟩
    have ll : ys2.length ≤ 602 := by
      rw [dy2.length, List.length_append, List.length_take]
      have := sidesD_len (ds.take i)
      rw [List.length_take] at this
      simp only [List.length_cons, List.length_nil]
      omega
    by_cases h2 : j < 2
    · refine .inr ⟨⟨[u, v], [u, v][j]'(by simpa using h2), SqT.of (sG2 _ _ hp), by simp [h2]⟩, Nx (j + 1), fun G3 h3 => ⟨2 - (j + 1), by omega, rfl, h3⟩, fun x G3 y => ?_⟩
      obtain ⟨e, y⟩ := y
      subst e
      have hxj := y [u, v] (SqT.of (sG2 _ _ hp))
      refine ⟨rfl, (iteT (B := Nx (j + 1) G3) ?_ : if true = true then _ else Nx (j + 1) G3)⟩
      refine ⟨_, rfl, ys2, eD2, small1000 (by omega), by omega, fun c o hc => ?_, ys2 ++ [x], upd_same, ?_⟩
      · rw [upd_ne (ne_of_none hc nD)]
        exact sG2 c o hc
      · have e01 : j = 0 ∨ j = 1 := by omega
        rcases e01 with rfl | rfl
        · cases hxj
          have e : sidesD (ds.take i) ++ [a, b].take (0 + 1) = (sidesD (ds.take i) ++ [a, b].take 0) ++ [a] := by simp
          rw [e]
          exact DxAll.append dy2 (.cons du .nil)
        · cases hxj
          have e : sidesD (ds.take i) ++ [a, b].take (1 + 1) = (sidesD (ds.take i) ++ [a, b].take 1) ++ [b] := by simp
          rw [e]
          exact DxAll.append dy2 (.cons dv2 .nil)
    · have e : j = 2 := by omega
      subst e
      refine .inl ⟨⟨[u, v], SqT.of (sG2 _ _ hp), Nat.le_refl _⟩, sG2, ys2, eD2, ?_⟩
      rw [sidesD_take gd]
      exact dy2
  · have e : i = xs.length := by omega
    subst e
    refine .inl ⟨⟨xs, sG.seq hl, Nat.le_refl _⟩, ?_⟩
    rw [lx, List.take_length] at dy
    exact q D ys G sG eD (dy.up sG)
theorem sides_short : ∀ ds : List PyData, shortAll ds = true → shortAll (sidesD ds) = true
  | [], _ => rfl
  | d :: ds, h => by
    rw [shortAll, Bool.and_eq_true] at h
    have ih := sides_short ds h.2
    rw [show sidesD (d :: ds) = sidesOf d ++ sidesD ds from rfl, shortAll_append, ih, Bool.and_true]
    match d, h.1 with
    | .tuple [a, b], h => exact h
    | .tuple [], h => rfl
    | .tuple [_], h => rfl
    | .tuple (_ :: _ :: _ :: _), h => rfl
    | .none, _ | .bool _, _ | .int _, _ | .str _, _ | .list _, _ | .dict _, _ => rfl
theorem sides_sz : ∀ ds : List PyData, szAll (sidesD ds) ≤ szAll ds
  | [] => Nat.le_refl _
  | d :: ds => by
    have ih := sides_sz ds
    rw [show sidesD (d :: ds) = sidesOf d ++ sidesD ds from rfl, szAll_append, szAll]
    have : szAll (sidesOf d) ≤ szD d := by
      match d with
      | .tuple [a, b] => simp only [sidesOf, szD]; omega
      | .tuple [] => simp [sidesOf, szAll]
      | .tuple [_] => simp [sidesOf, szAll]
      | .tuple (_ :: _ :: _ :: _) => simp [sidesOf, szAll]
      | .none | .bool _ | .int _ | .str _ | .list _ | .dict _ => simp [sidesOf, szAll]
    omega
def spAre (K : PySem.W.Frag) : Sp := fun vs H Q _ => ∃ (l : Addr) (xs : List V) (ds : List PyData), vs = [.ref l] ∧ SqL K H l xs ∧ DxAll K H xs ds ∧ shortAll ds = true ∧ szAll ds ≤ 100000 ∧ ds.length ≤ 300 ∧
  ∀ H', Same H H' → Q (.bl (couplesD ds)) H'
theorem ok_are (T : Tx K mg) : FnOk P w K mg base CX0 4 T.aare_couples T.dare_couples ["values"] (spAre K) := by
  have nd := sc_are_couples.nd
  have G1 := ok_cp (P := P) (w := w) (base := base) T
  have G2 := ok_sides (P := P) (w := w) (base := base) T
  have G3 := ok_jointL (P := P) (w := w) (base := base) T
  refine T.fare_couples.ok sc_are_couples (fun vs H Q E h => ?_) (fun cdv A outer s H vs Q E hr h => ?_)
  · obtain ⟨l, xs, ds, rfl, _⟩ := h
    rfl
  obtain ⟨l, xs, ds, rfl, hl, hx, sh, sz, few, q⟩ := h
  refine ⟨_, (pss_cons (ps_if (pt_not (pt_val (pe_callB (cr_all rfl) (by rfl) T.b_all (by decide +kernel) (pa_cons (pe_lc (own := [("value", 1)]) (g := (gName 1)) (tt := tYes) (by rfl) nd (pi_list (pv 0)) (blkOk_by (own := [("value", 1)]) (N := N_are_couples) (sc := defScope s_are_couples) (by decide +kernel)) (fun _ _ _ _ _ => pg_name (i := 1) nd rfl (.inl rfl)) (fun _ _ _ _ _ => pts_nil) (fun _ _ _ _ _ => (pe_call G1 (hr.mono (by omega)) (by rfl) T.gis_couple T.fis_couple.kp T.nis_couple .nil pass0 (pa_cons (pv 1) pa_nil)))) pa_nil)))) (pss_one (ps_ret pe_bl)) pss_nil)
      (pss_one (ps_ret (pe_cmpR op_notN (pe_call G3 (hr.mono (by omega)) (by rfl) T.gjoint_places T.fjoint_places.kp T.njoint_places .nil pass0 (pa_cons (pe_call G2 (hr.mono (by omega)) (by rfl) T.gsides_of T.fsides_of.kp T.nsides_of .nil pass0 (pa_cons (pv 0) pa_nil)) pa_nil)) pe_non (nomark _))))), ?_⟩
  have lx := hx.length
  refine ⟨_, rfl, l, rfl, ⟨_, hl⟩, fun D nD => ?_⟩
  refine lc_list (K := K) (a := l) (xs := xs) (fun i G => Same H G ∧ G D = some (.lst (((ds.take i).map coupleD).map V.bl))) ⟨same_put nD, upd_same⟩ (fun i G _ h => h.1.seq hl) ?_ ?_
  · rintro i x G hi ⟨sG, eD⟩
    have lti : i < ds.length := by rw [← lx]; exact (List.getElem?_eq_some_iff.mp hi).1
    have gd := List.getElem?_eq_getElem lti
    obtain ⟨v, hv, dv⟩ := hx.get gd
    rw [hi] at hv
    cases hv
    refine ⟨rfl, (iteT (B := False) ?_ : if true = true then _ else False)⟩
    refine ⟨_, rfl, x, ds[i], rfl, dv.up sG, _, eD, ?_, fun c o hc => ?_, ?_⟩
    · rw [List.length_map, List.length_map, List.length_take]
      exact small1000 (by omega)
    · rw [upd_ne (ne_of_none hc nD)]
      exact sG c o hc
    · rw [upd_same, List.take_add_one, gd, List.map_append, List.map_append]
      rfl
  · rintro G ⟨sG, eD⟩
    rw [lx, List.take_length] at eD
    refine ⟨D, _, rfl, .inl (.inl eD), _, rfl, ?_⟩
    have eall : ((ds.map coupleD).all id) = ds.all coupleD := by simp
    rw [eall]
    cases hc : ds.all coupleD with
    | false =>
      have e : couplesD ds = false := by simp [couplesD, hc]
      have q := q G sG
      rw [e] at q
      exact iteT q
    | true =>
      refine iteF ?_
      refine ⟨_, rfl, l, xs, ds, rfl, sG.seq hl, hx.up sG, hc, few, fun p ys H1 s1 hp dy => ?_⟩
      refine ⟨p, ys, sidesD ds, rfl, SqL.of hp, dy, sides_short ds sh, Nat.le_trans (sides_sz ds) sz, fun v H2 s2 h1 h2 => ?_⟩
      have q := q H2 (sG.trans (s1.trans s2))
      have e : couplesD ds = jointD (sidesD ds) := by simp [couplesD, hc]
      rw [e] at q
      cases j : jointD (sidesD ds) with
      | false =>
        rw [j] at q
        cases h1 j
        exact ⟨rfl, q⟩
      | true =>
        rw [j] at q
        obtain ⟨p, ms, rfl, _⟩ := h2 j
        exact ⟨rfl, q⟩
def isPairD (d : PyData) : Bool := couplesD [d] && ordC d
theorem dx_nil {K : PySem.W.Frag} {H : Hp} {v : V} {d : PyData} (h : Dx K H v d) : d = .none ↔ v = .non := by
  constructor
  · rintro rfl
    cases h
    rfl
  · rintro rfl
    cases h
    rfl
/-- the sides of couples that hang together may be written -/
theorem couples_wr {ds : List PyData} (h : couplesD ds = true) (z : szAll ds ≤ 10000) : ∀ d, d ∈ ds → ∃ a b, d = .tuple [a, b] ∧ Wr a ∧ Wr b := fun d hd => by
  simp only [couplesD, Bool.and_eq_true] at h
  obtain ⟨a, b, rfl⟩ := couple_eq (List.all_eq_true.mp h.1 d hd)
  have hj : formedAll (sidesD ds) = true := by
    have := h.2
    simp only [jointD, Bool.and_eq_true] at this
    exact this.1
  have fm : ∀ (l : List PyData), formedAll l = true → ∀ e, e ∈ l → formedD e = true := by
    intro l
    induction l with
    | nil => intro _ e he; cases he
    | cons x l ih =>
      intro hl e he
      rw [formedAll, Bool.and_eq_true] at hl
      rcases List.mem_cons.mp he with rfl | he
      · exact hl.1
      · exact ih hl.2 e he
  have sm : ∀ (l : List PyData) e, e ∈ l → szD e ≤ szAll l := by
    intro l
    induction l with
    | nil => intro e he; cases he
    | cons x l ih =>
      intro e he
      rw [szAll]
      rcases List.mem_cons.mp he with rfl | he
      · omega
      · have := ih e he
        omega
  have ma : a ∈ sidesD ds := List.mem_flatMap.mpr ⟨_, hd, by simp [sidesOf]⟩
  have mb : b ∈ sidesD ds := List.mem_flatMap.mpr ⟨_, hd, by simp [sidesOf]⟩
  have z2 := sides_sz ds
  exact ⟨a, b, rfl, wr_of (fm _ hj a ma) (by have := sm _ a ma; omega), wr_of (fm _ hj b mb) (by have := sm _ b mb; omega)⟩
end
end K12
/-! Facts, as they are judged. -/
namespace K12
open PySem PySem.Spec PyProof.Rows L2 Kx StX
/-- the conclusion, where there is one -/
def endOf : PyData → List PyData
  | .none => []
  | e => [e]
theorem endOf_some {e : PyData} (h : e ≠ .none) : endOf e = [e] := by
  cases e <;> first | exact absurd rfl h | rfl
section
variable {P : Program} {w : World} {K : PySem.W.Frag} {mg : Str → Option Value} {base : Heap}
def spPi (K : PySem.W.Frag) : Sp := fun vs H Q _ => ∃ (f t : Addr) (us : List V) (v : V) (ps : List PyData) (e : PyData), vs = [.ref f] ∧ H f = some (.tup [.ref t, v]) ∧ H t = some (.tup us) ∧ DxAll K H us ps ∧ Dx K H v e ∧ ps.length ≤ 299 ∧
  ∀ p ys H', Same H H' → H p = none → H' p = some (.lst ys) → DxAll K H' ys (ps ++ endOf e) → Q (.ref p) H'
theorem ok_pi (T : Tx K mg) : FnOk P w K mg base CX0 1 T.apairs_in T.dpairs_in ["fact"] (spPi K) := by
  have nd := sc_pairs_in.nd
  refine T.fpairs_in.ok sc_pairs_in (fun vs H Q E h => ?_) (fun cdv A outer s H vs Q E hr h => ?_)
  · obtain ⟨f, t, us, v, ps, e, rfl, _⟩ := h
    rfl
  obtain ⟨f, t, us, v, ps, e, rfl, hf, ht, hu, he, few, q⟩ := h
  refine ⟨_, (pss_one (ps_ret (pe_ifExp (pt_cmpR op_isN (pe_ix ix_tup (pv 0) pe_int (fun _ _ => rfl)) pe_non (nomark _)) (pe_callTy call_list_of (by rfl) T.b_list (by decide +kernel) (pa_cons (pe_ix ix_tup (pv 0) pe_int (fun _ _ => rfl)) pa_nil)) (pe_lst (pa_star (pe_ix ix_tup (pv 0) pe_int (fun _ _ => rfl)) (pa_cons (pe_ix ix_tup (pv 0) pe_int (fun _ _ => rfl)) pa_nil)))))), ?_⟩
  refine ⟨_, rfl, f, _, 1, v, rfl, rfl, SqT.of hf, atI_nat (j := 1) rfl, rfl, _, rfl, ?_⟩
  by_cases ev : v = .non
  · have ee := (dx_nil he).mpr ev
    subst ev ee
    refine iteT ⟨_, rfl, f, _, 0, .ref t, rfl, rfl, SqT.of hf, atI_nat (j := 0) rfl, t, us, rfl, .inr (SqT.of ht), fun p np => ?_⟩
    exact q p us _ (same_put np) np upd_same (by rw [show endOf .none = [] from rfl, List.append_nil]; exact hu.up (same_put np))
  · have ee : e ≠ .none := fun z => ev ((dx_nil he).mp z)
    rw [decide_eq_false ev]
    refine iteF ⟨_, rfl, f, _, 0, .ref t, rfl, rfl, SqT.of hf, atI_nat (j := 0) rfl, t, us, rfl, .inl (SqT.of ht), ?_⟩
    refine ⟨_, rfl, f, _, 1, v, rfl, rfl, SqT.of hf, atI_nat (j := 1) rfl, ?_, fun p np => ?_⟩
    · have := hu.length
      rw [List.length_append]
      exact Nat.le_of_lt (small1000 (by show us.length + 1 ≤ 1000; omega))
    · exact q p _ _ (same_put np) np upd_same (by rw [endOf_some ee]; exact (DxAll.append hu (.cons he .nil)).up (same_put np))
/-- a couple's texts -/
def keyC : PyData → PyData
  | .tuple [a, b] => .tuple [.str (tS (tx a)), .str (tS (tx b))]
  | d => d
def chainD (ks : List PyData) : Bool := (ks.zip ks.tail).all fun p => PySem.W.dataLt p.1 p.2
def factB : PyData → PyData → Bool
  | .tuple ps, e => couplesD (ps ++ endOf e) && ((ps ++ endOf e).all ordC && chainD (ps.map keyC))
  | _, _ => false
def factD : PyData → Bool
  | .tuple [a, e] => factB a e
  | _ => false
theorem pure_keys : ∀ {ps : List PyData}, (∀ d, d ∈ ps → ∃ a b, d = .tuple [a, b] ∧ Wr a ∧ Wr b) → pureAll (ps.map keyC) = true
  | [], _ => rfl
  | d :: ps, h => by
    obtain ⟨a, b, rfl, _⟩ := h d List.mem_cons_self
    rw [List.map_cons, pureAll, pure_keys fun d hd => h d (List.mem_cons_of_mem _ hd)]
    rfl
def spFact (K : PySem.W.Frag) : Sp := fun vs H Q _ => ∃ (x : V) (d : PyData), vs = [x] ∧ Dx K H x d ∧ shortD d = true ∧ szD d ≤ 10000 ∧ (∀ ps e, d = .tuple [.tuple ps, e] → ps.length ≤ 100) ∧ ∀ H', Same H H' → Q (.bl (factD d)) H'
theorem ok_fact (T : Tx K mg) : FnOk P w K mg base CX0 5 T.ais_fact T.dis_fact ["value"] (spFact K) := by
  have nd := sc_is_fact.nd
  have G1 := ok_cp (P := P) (w := w) (base := base) T
  have G2 := ok_pi (P := P) (w := w) (base := base) T
  have G3 := ok_are (P := P) (w := w) (base := base) T
  have G4 := ok_ord (P := P) (w := w) (base := base) T
  have G5 := ok_key (P := P) (w := w) (base := base) T
  refine T.fis_fact.ok sc_is_fact (fun vs H Q E h => ?_) (fun cdv A outer s H vs Q E hr h => ?_)
  · obtain ⟨x, d, rfl, _⟩ := h
    rfl
  obtain ⟨x, d, rfl, hx, sh, sz, few, q⟩ := h
  refine ⟨_, (pss_cons (ps_if (PW.pt (pw_or (pt_not (pt_val (pe_call G1 (hr.mono (by omega)) (by rfl) T.gis_couple T.fis_couple.kp T.nis_couple .nil pass0 (pa_cons (pv 0) pa_nil)))) (pw_or1 (pt_not (pt_val (pe_callB call_isi (by rfl) T.b_isinstance (by decide +kernel) (pa_cons (pe_ix ix_tup (pv 0) pe_int (fun _ _ => rfl)) (pa_cons (pe_bltn (v := .ty "tuple") (by rfl) T.b_tuple (by decide +kernel) rfl) pa_nil)))))))) (pss_one (ps_ret pe_bl)) pss_nil)
      (pss_cons (ps_set (i := 1) nd rfl (.inl rfl) (pe_call G2 (hr.mono (by omega)) (by rfl) T.gpairs_in T.fpairs_in.kp T.npairs_in .nil pass0 (pa_cons (pv 0) pa_nil)))
      (pss_cons (ps_if (PW.pt (pw_or (pt_not (pt_val (pe_call G3 (hr.mono (by omega)) (by rfl) T.gare_couples T.fare_couples.kp T.nare_couples .nil pass0 (pa_cons (pv 1) pa_nil)))) (pw_or1 (pt_not (pt_val (pe_callB (cr_all rfl) (by rfl) T.b_all (by decide +kernel) (pa_cons (pe_lc (own := [("pair", 3)]) (g := (gName 3)) (tt := tYes) (by rfl) nd (pi_list (pv 1)) (blkOk_by (own := [("pair", 3)]) (N := N_is_fact) (sc := defScope s_is_fact) (by decide +kernel)) (fun _ _ _ _ _ => pg_name (i := 3) nd rfl (.inl rfl)) (fun _ _ _ _ _ => pts_nil) (fun _ _ _ _ _ => (pe_call G4 (hr.mono (by omega)) (by rfl) T.gis_ordered T.fis_ordered.kp T.nis_ordered .nil pass0 (pa_cons (pv 3) pa_nil)))) pa_nil))))))) (pss_one (ps_ret pe_bl)) pss_nil)
      (pss_cons (ps_setLc (i := 2) (own := [("pair", 3)]) (g := (gName 3)) (tt := tYes) (by rfl) nd rfl rfl (sw_true rfl rfl rfl (by decide +kernel)) (pi_tup (pe_ix ix_tup (pv 0) pe_int (fun _ _ => rfl))) (blkOk_by (own := [("pair", 3)]) (N := N_is_fact) (sc := defScope s_is_fact) (by decide +kernel)) (fun _ _ _ _ _ => pg_name (i := 3) nd rfl (.inl rfl)) (fun _ _ _ _ _ => pts_nil) (fun _ _ _ _ _ => (pe_call G5 (hr.mono (by omega)) (by rfl) T.gkey_of T.fkey_of.kp T.nkey_of .nil pass0 (pa_cons (pv 3) pa_nil))))
      (pss_one (ps_ret (pe_callB (cr_all rfl) (by rfl) T.b_all (by decide +kernel) (pa_cons (pe_lc (own := [("key", 4), ("further", 5)]) (g := (gTup K 2 (gCons (gName 4) (gCons (gName 5) gNil)))) (tt := tYes) (by rfl) nd (pi_zip (by rfl) T.b_zip (pa_cons (pv 2) (pa_cons (pe_slice sl_list (pv 2) (po_some pe_int) po_none) pa_nil))) (blkOk_by (own := [("key", 4), ("further", 5)]) (N := N_is_fact) (sc := defScope s_is_fact) (by decide +kernel)) (fun _ _ _ _ _ => pg_tup rfl (pgs_cons (pg_name (i := 4) nd rfl (.inl rfl)) (pgs_cons (pg_name (i := 5) nd rfl (.inl rfl)) pgs_nil))) (fun _ _ _ _ _ => pts_nil) (fun _ _ _ _ _ => (pe_cmpR (r := rLtD K) (op_ltD hr.units) (pv 4) (pv 5) (nomark _)))) pa_nil)))))))), ?_⟩
  have no : factD d = false → ∀ H', Same H H' → Q (.bl false) H' := fun e H' s => by
    have := q H' s
    rw [e] at this
    exact this
  refine ⟨_, rfl, x, d, rfl, hx, _, rfl, ?_⟩
  cases hcd : coupleD d with
  | false =>
    refine iteT (no ?_ H (Same.refl H))
    match d, hcd with
    | .tuple [], _ | .tuple [_], _ | .tuple (_ :: _ :: _ :: _), _ => rfl
    | .none, _ | .bool _, _ | .int _, _ | .str _, _ | .list _, _ | .dict _, _ => rfl
  | true =>
  obtain ⟨d0, e, rfl⟩ := couple_eq hcd
  obtain ⟨f, x0, v, rfl, hf, h0, hv⟩ := dx_couple hx
  refine iteF ⟨_, rfl, f, _, 0, x0, rfl, rfl, SqT.of hf, atI_nat (j := 0) rfl, x0, .ty "tuple", _, _, _, rfl, .ty _, h0.ty, kit_ty (kit_tuple d0), _, rfl, ?_⟩
  match d0, h0 with
  | .none, _ | .bool _, _ | .int _, _ | .str _, _ | .list _, _ | .dict _, _ => exact iteT (no rfl H (Same.refl H))
  | .tuple ps, h0 =>
  cases h0 with
  | @tup t us _ ht hu =>
  have fps := few ps e rfl
  refine iteF ⟨_, rfl, f, t, us, v, ps, e, rfl, hf, ht, hu, hv, by omega, fun p ys H1 s1 np hp dy => ?_⟩
  have sh2 : shortAll ps = true ∧ shortD e = true := by
    have : shortAll [.tuple ps, e] = true := sh
    simpa [shortAll, shortD] using this
  have z2 : szAll (ps ++ endOf e) ≤ 10000 := by
    have : szAll (endOf e) ≤ szD e := by cases e <;> simp [endOf, szAll, szD]
    rw [szAll_append]
    simp only [szD, szAll] at sz
    omega
  have sh3 : shortAll (ps ++ endOf e) = true := by
    rw [shortAll_append, sh2.1, Bool.true_and]
    have := sh2.2
    cases e <;> simp_all [endOf, shortAll]
  have l3 : (ps ++ endOf e).length ≤ 101 := by
    rw [List.length_append]
    have : (endOf e).length ≤ 1 := by cases e <;> simp [endOf]
    omega
  refine ⟨_, rfl, p, ys, _, rfl, SqL.of hp, dy, sh3, by omega, by omega, fun H2 s2 => ⟨_, rfl, ?_⟩⟩
  have s12 := s1.trans s2
  have ef : factD (.tuple [.tuple ps, e]) = (couplesD (ps ++ endOf e) && ((ps ++ endOf e).all ordC && chainD (ps.map keyC))) := rfl
  cases hcs : couplesD (ps ++ endOf e) with
  | false => exact iteT (no (by rw [ef, hcs]; rfl) H2 s12)
  | true =>
  have wr := couples_wr hcs z2
  rw [hcs, Bool.true_and] at ef
  have hp2 := s2 _ _ hp
  have dy2 := dy.up s2
  refine iteF ⟨_, rfl, p, rfl, ⟨_, SqL.of hp2⟩, fun D nD => ?_⟩
  have ly := dy2.length
  refine lc_list (K := K) (a := p) (xs := ys) (fun i G => Same H2 G ∧ G D = some (.lst ((((ps ++ endOf e).take i).map ordC).map V.bl))) ⟨same_put nD, upd_same⟩ (fun i G _ h => SqL.of (h.1 _ _ hp2)) ?_ ?_
  · rintro i x G hi ⟨sG, eD⟩
    have lti : i < (ps ++ endOf e).length := by rw [← ly]; exact (List.getElem?_eq_some_iff.mp hi).1
    have gd := List.getElem?_eq_getElem lti
    obtain ⟨v2, hv2, dv⟩ := dy2.get gd
    rw [hi] at hv2
    cases hv2
    obtain ⟨a, b, eab, wa, wb⟩ := wr _ (List.getElem_mem lti)
    rw [eab] at dv
    obtain ⟨q0, u, v3, rfl, hq0, du, dv3⟩ := dx_couple dv
    refine ⟨rfl, (iteT (B := False) ?_ : if true = true then _ else False)⟩
    refine ⟨_, rfl, q0, u, v3, a, b, rfl, sG _ _ hq0, du.up sG, dv3.up sG, wa, wb, fun H3 s3 => ⟨_, s3 _ _ eD, ?_, fun c o hc => ?_, ?_⟩⟩
    · rw [List.length_map, List.length_map, List.length_take]
      exact small1000 (by omega)
    · rw [upd_ne (ne_of_none hc nD)]
      exact s3 _ _ (sG c o hc)
    · rw [upd_same, List.take_add_one, gd, List.map_append, List.map_append, eab]
      rfl
  · rintro G ⟨sG, eD⟩
    rw [ly, List.take_length] at eD
    refine ⟨D, _, rfl, .inl (.inl eD), _, rfl, ?_⟩
    have eall : (((ps ++ endOf e).map ordC).all id) = (ps ++ endOf e).all ordC := by
      rw [List.all_map]
      rfl
    rw [eall]
    have s3 := s12.trans sG
    cases ho : (ps ++ endOf e).all ordC with
    | false => exact iteT (no (by rw [ef, ho]; rfl) G s3)
    | true =>
    rw [ho, Bool.true_and] at ef
    refine iteF ?_
    have wps : ∀ d, d ∈ ps → ∃ a b, d = .tuple [a, b] ∧ Wr a ∧ Wr b := fun d hd => wr d (List.mem_append_left _ hd)
    have lu := hu.length
    refine ⟨_, rfl, f, _, 0, .ref t, rfl, rfl, SqT.of (s3 _ _ hf), atI_nat (j := 0) rfl, t, rfl, ⟨_, SqT.of (s3 _ _ ht)⟩, fun D2 nD2 => ?_⟩
    refine lc_tup (K := K) (a := t) (xs := us) (fun i G2 => Same G G2 ∧ ∃ vs, G2 D2 = some (.lst vs) ∧ DxAll K G2 vs ((ps.take i).map keyC)) ⟨same_put nD2, [], upd_same, .nil⟩ (fun i G2 _ h => SqT.of (h.1 _ _ (s3 _ _ ht))) ?_ ?_
    · rintro i x G2 hi ⟨sG2, vs, eD2, dk⟩
      have lti : i < ps.length := by rw [← lu]; exact (List.getElem?_eq_some_iff.mp hi).1
      have gd := List.getElem?_eq_getElem lti
      obtain ⟨v2, hv2, dv⟩ := hu.get gd
      rw [hi] at hv2
      cases hv2
      obtain ⟨a, b, eab, wa, wb⟩ := wps _ (List.getElem_mem lti)
      rw [eab] at dv
      obtain ⟨q0, u, v3, rfl, hq0, du, dv3⟩ := dx_couple dv
      have sHG := s3.trans sG2
      refine ⟨rfl, (iteT (B := False) ?_ : if true = true then _ else False)⟩
      refine ⟨_, rfl, q0, u, v3, a, b, rfl, sHG _ _ hq0, du.up sHG, dv3.up sHG, wa, wb, fun k G3 sG3 nk hk => ⟨_, sG3 _ _ eD2, ?_, fun c o hc => ?_, vs ++ [.ref k], upd_same, ?_⟩⟩
      · rw [dk.length, List.length_map, List.length_take]
        exact small1000 (by omega)
      · rw [upd_ne (ne_of_none hc nD2)]
        exact sG3 _ _ (sG2 c o hc)
      · have nkD : k ≠ D2 := (ne_of_none eD2 nk).symm
        have e1 : (ps.take (i + 1)).map keyC = (ps.take i).map keyC ++ [keyC ps[i]] := by
          rw [List.take_add_one, gd, List.map_append]
          rfl
        rw [e1, eab]
        refine DxAll.append (DxAll.ts (Tups.lst (sG3 _ _ eD2)) _ _ ?_ (dk.up sG3)) (.cons (.tup (by rw [upd_ne nkD]; exact hk) (.cons (.str _) (.cons (.str _) .nil))) .nil)
        exact pure_keys fun d hd => wps d (List.mem_of_mem_take hd)
    · rintro G2 ⟨sG2, vs, eD2, dk⟩
      rw [lu, List.take_length] at dk
      refine ⟨_, rfl, _, rfl, 1, rfl, ?_⟩
      dsimp only [tNoPart]
      refine ⟨D2, vs, rfl, SqL.of eD2, fun D3 nD3 => ?_⟩
      have ec : cutV vs (some 1) none = vs.drop 1 := by
        cases vs with
        | nil => rfl
        | cons a b => exact cut_one (by simp)
      rw [ec]
      have s4 := s3.trans (sG2.trans (same_put (o := .lst (vs.drop 1)) nD3))
      have eD24 := same_put (o := .lst (vs.drop 1)) nD3 _ _ eD2
      have dk4 := dk.up (same_put (o := .lst (vs.drop 1)) nD3)
      have eD3 : (upd G2 D3 (.lst (vs.drop 1))) D3 = some (.lst (vs.drop 1)) := upd_same
      generalize upd G2 D3 (.lst (vs.drop 1)) = G3 at s4 eD24 dk4 eD3 ⊢
      refine ⟨D2, D3, vs, vs.drop 1, rfl, SqL.of eD24, SqL.of eD3, fun D4 nD4 => ?_⟩
      have lk : vs.length = ps.length := by rw [dk.length, List.length_map]
      obtain ⟨ks, eks⟩ : ∃ ks, ks = ps.map keyC := ⟨_, rfl⟩
      have lks : ks.length = vs.length := by rw [eks, List.length_map, lk]
      obtain ⟨cs, ecs⟩ : ∃ cs : List Bool, cs = (ks.zip ks.tail).map fun p => PySem.W.dataLt p.1 p.2 := ⟨_, rfl⟩
      have lcs : cs.length = vs.length - 1 := by
        rw [ecs, List.length_map, List.length_zip, List.length_tail, lks]
        omega
      rw [← eks] at dk4 ef
      refine lc_it (walk_zip (n := vs.length - 1) (by rw [List.length_drop]; omega)) (fun i G4 => Same G3 G4 ∧ G4 D4 = some (.lst ((cs.take i).map V.bl))) ⟨same_put nD4, upd_same⟩ (fun i G4 _ h => ⟨SqL.of (h.1 _ _ eD24), SqL.of (h.1 _ _ eD3)⟩) ?_ ?_
      · rintro i x G4 G5 hi ⟨sG4, eD4⟩ ⟨T5, u, v5, rfl, nT5, rfl, hu5, hv5⟩
        have hi1 : i < ks.length := by omega
        have hi2 : i + 1 < ks.length := by omega
        have hu5 : vs[i]? = some u := hu5
        have hv5 : (vs.drop 1)[i]? = some v5 := hv5
        rw [List.getElem?_drop, Nat.add_comm] at hv5
        have g1 := List.getElem?_eq_getElem hi1
        have g2 := List.getElem?_eq_getElem hi2
        obtain ⟨u', hu', du⟩ := dk4.get g1
        obtain ⟨v', hv', dv⟩ := dk4.get g2
        rw [hu5] at hu'
        rw [hv5] at hv'
        cases hu'
        cases hv'
        have kd : ∀ (j : Nat) (hj : j < ks.length), ∃ x y : Str, ks[j] = .tuple [.str x, .str y] := fun j hj => by
          have lt : j < ps.length := by omega
          obtain ⟨a, b, e1, _⟩ := wps ps[j] (List.getElem_mem lt)
          refine ⟨tS (tx a), tS (tx b), ?_⟩
          have : ks[j]? = some (keyC ps[j]) := by rw [eks, List.getElem?_map, List.getElem?_eq_getElem lt]; rfl
          rw [List.getElem?_eq_getElem hj, e1] at this
          exact Option.some.inj this
        obtain ⟨x1, y1, k1⟩ := kd i hi1
        obtain ⟨x2, y2, k2⟩ := kd (i + 1) hi2
        have s5 := sG4.trans (same_put (o := .tup [u, v5]) nT5)
        have eD5 := same_put (o := .tup [u, v5]) nT5 _ _ eD4
        have eT5 : (upd G4 T5 (.tup [u, v5])) T5 = some (.tup [u, v5]) := upd_same
        generalize upd G4 T5 (.tup [u, v5]) = G5 at s5 eD5 eT5 ⊢
        refine ⟨T5, _, rfl, SqT.of eT5, rfl, _, _, rfl, _, _, rfl, rfl, rfl, (iteT (B := False) ?_ : if true = true then _ else False)⟩
        refine ⟨_, rfl, _, rfl, ks[i], ks[i + 1], du.up s5, dv.up s5, by rw [k1, k2]; rfl, by rw [k1]; simp, by rw [k1]; simp [PyData.depth, PyData.depthAll], _, eD5, ?_, fun c o hc => ?_, ?_⟩
        · rw [List.length_map, List.length_take]
          exact small1000 (by omega)
        · rw [upd_ne (ne_of_none hc nD4)]
          exact s5 _ _ hc
        · have gc : cs[i]? = some (PySem.W.dataLt ks[i] ks[i + 1]) := by
            have ez : (ks.zip ks.tail)[i]? = some (ks[i], ks[i + 1]) := List.getElem?_zip_eq_some.mpr ⟨g1, by rw [List.getElem?_tail]; exact g2⟩
            rw [ecs, List.getElem?_map, ez]
            rfl
          rw [upd_same, List.take_add_one, gc, List.map_append]
          rfl
      · rintro G4 ⟨sG4, eD4⟩
        rw [← lcs, List.take_length] at eD4
        refine ⟨D4, _, rfl, .inl (.inl eD4), ?_⟩
        have q := q G4 (s4.trans sG4)
        rw [ef] at q
        have e : cs.all id = chainD ks := by
          rw [ecs, List.all_map]
          rfl
        rw [← e] at q
        exact q
end
end K12
/-! xs.count(y), flat items. -/
namespace Kx
open PySem PySem.Spec PyProof.Rows L2
def rCountF (K : PySem.W.Frag) : V → List V → Hp → VK → Prop := fun x xs H Q => ∃ (a : Addr) (ys : List V) (y : V), x = .ref a ∧ xs = [y] ∧ SqL K H a ys ∧ flatV y = true ∧ ys.all flatV = true ∧ Q (.int ((ys.countP fun z => eqV z y : Nat) : Int)) H
theorem count_eqU {x : V} : ∀ {xs : List V} {us : List Value}, Vals xs us → xs.all flatV = true → us.countP (eqU x) = xs.countP fun y => eqV y x
  | _, _, .nil, _ => rfl
  | y :: xs, u :: us, .cons r t, f => by
    rw [List.all_cons, Bool.and_eq_true] at f
    rw [List.countP_cons, List.countP_cons, count_eqU t f.2, eqU_of r f.1]
theorem mt_countF {X : Cx} : MtR X "list.count" (rCountF X.K) := by
  intro pins s σ H x xs v us Q I rx rxs h
  obtain ⟨p, ys, y, rfl, rfl, hs, fy, fys, q⟩ := h
  cases rx
  obtain ⟨u, rfl, ru⟩ := rxs.one
  obtain ⟨its, rv, ⟨⟨cls, dd, data, sl⟩, n, ho, hc, hdn, hd⟩, hlen⟩ := I.list hs
  simp only at hc hd
  subst hc hd
  refine call_meets PySem.F.slot_list_count ⟨_, ho, rfl⟩ PySem.F.entry_list_count (PySem.F.args_list_count_2 _ _)
    (SeqAt.list_countAt p its.toArray n dd sl u (eqU y)) ⟨ho, fun u' hu' => mem_eqAt ru fy rv fys u' (by simpa using hu'), ?_⟩
  have ec : its.toArray.toList.countP (eqU y) = ys.countP fun z => eqV z y := count_eqU rv fys
  refine ⟨.int ((ys.countP fun z => eqV z y : Nat) : Int), H, I.tok _, ⟨s.toks, ?_⟩, q⟩
  show Value.int ((its.toArray.toList.countP (eqU y) : Nat) : Int) s.toks = Value.int ((ys.countP (fun z => eqV z y) : Nat) : Int) s.toks
  rw [ec]
end Kx
/-! A lambda handed to a def that tells by two except clauses. -/
namespace Kx
open PySem PySem.Spec PyProof.Rows L2 LamX
theorem takes00 {X : Cx} : Takes X (fun _ _ _ _ => False) := LamX.takes0
def Told2 (K : PySem.W.Frag) (C1 C2 : Addr) (r1 r2 : Str) (Q : VK) : XK := fun cls _ H' =>
  ∃ b, PySem.W.exmOne K cls (.ref C1) = some b ∧ (b = true → Q (.str r1) H') ∧ (b = false → ∃ b2, PySem.W.exmOne K cls (.ref C2) = some b2 ∧ (b2 = true → Q (.str r2) H') ∧ (b2 = false → False))
def TTold2 (K : PySem.W.Frag) (C1 C2 : Addr) (r1 r2 : Str) : (XK → Hp → VK → Prop) → Hp → VK → Prop := fun tl H Q => tl (Told2 K C1 C2 r1 r2 Q) H Q
theorem told_gives2 {X : Cx} {Ng : List Str} {x a e1 e2 q r1 r2 : Str} {sg : Scope} {g C1 C2 : Addr} {cdg : Value} {j1 j2 : Nat} {p1 p2 p3 p4 p5 p6 p7 p8 p9 p10 p11 p12 : Pos}
    (hg1 : sg.names.lookup e1 = some .globalImplicit) (hm1 : X.mg e1 = some (.ref C1)) (hd1 : (e1 == ("__debug__" : Str)) = false)
    (hg2 : sg.names.lookup e2 = some .globalImplicit) (hm2 : X.mg e2 = some (.ref C2)) (hd2 : (e2 == ("__debug__" : Str)) = false) (h0 : ∀ f : Addr, (L2.start Ng [V.ref f])[0]? = some (some (V.ref f))) :
    GivesTo X Ng x sg g cdg [.Try [.Return (some (.Call (.Name a p1) [] [] p2)) p3] [.ExceptHandler (some (.Name e1 p4)) none [.Return (some (.Constant (.str r1) j1 p5)) p6] p7, .ExceptHandler (some (.Name e2 p9)) none [.Return (some (.Constant (.str r2) j2 p10)) p11] p12] [] [] p8] a q (TTold2 X.K C1 C2 r1 r2) := by
  intro f c' s H Q tl act hc h
  have gl1 : Gl (cxOf C8.CX0 X.prog X.w X.K X.mg X.base Ng x sg g cdg X.A X.stack s H C8.E0).nox e1 := hg1
  have gl2 : Gl (cxOf C8.CX0 X.prog X.w X.K X.mg X.base Ng x sg g cdg X.A X.stack s H C8.E0).nox e2 := hg2
  refine ⟨_, pss_one (ps_try_many (X := (cxOf C8.CX0 X.prog X.w X.K X.mg X.base Ng x sg g cdg X.A X.stack s H C8.E0).nox)
      (tb := fun W D σ H => ∃ Ech : XK, (∀ cls d σ' H', Ech cls d H' → W cls d σ' H') ∧ σ[0]? = some (some (.ref f)) ∧ H c' = some (CodeO c' q) ∧ tl Ech H D.rt)
      rfl rfl takes00 (fun W pn xe tk _ => ?_) (.cons ⟨gl1, hd1, .inl hm1⟩ (fun a oe cls d pn _ _ => pss_one (ps_ret pe_str)) (.cons ⟨gl2, hd2, .inl hm2⟩ (fun a oe cls d pn _ _ => pss_one (ps_ret pe_str)) .nil))), ?_⟩
  · refine ⟨fun pins s' σ H' D I h' => ?_⟩
    obtain ⟨Ech, hW, h1, h2, h3⟩ := h'
    have hp := act W pn xe Ech p1 p2 tk hW
    have hq := pss_one (ps_ret (pos := p3) hp)
    exact hq.run pins s' σ H' D I ⟨h1, h2, h3⟩
  · refine ⟨Told2 X.K C1 C2 r1 r2 Q, fun cls d σ' H' ⟨b, e1, q1, q2⟩ => ⟨b, e1, fun hb a _ => q1 hb, fun hb => ?_⟩, h0 f, hc, h⟩
    obtain ⟨b2, e2, z1, z2⟩ := q2 hb
    exact ⟨b2, e2, fun hb a _ => z1 hb, fun hb => z2 hb⟩
end Kx
/-! try .. except X as e: what the suite may lean on. -/
namespace Kx
open PySem PySem.Spec PyProof.Rows L2 LamX
theorem takes_len {X : Cx} {W : WX} (t : Takes X W) : Takes X (fun cls d σ H => σ.length = X.N.length → W cls d σ H) := fun u s' ⟨a, B, sI, pins, σ, H, cls, d, e, I, nb, up, sky, na, os, ag, w⟩ =>
  t u s' ⟨a, B, sI, pins, σ, H, cls, d, e, I, nb, up, sky, na, os, ag, w I.len⟩
theorem pss_guard {X : Cx} {b : List Stmt} {p : Prop} {t : TS} (h : p → PSs X b t) : PSs X b (fun D σ H => p ∧ t D σ H) := ⟨fun pins s σ H D I h' => (h h'.1).run pins s σ H D I h'.2⟩
theorem pe_bmK {X : Cx} {K : PySem.W.Frag} (hK : X.K = K) {T : String} {name : Str} {id : String} {r : V → List V → Hp → VK → Prop} {o e : Expr} {es : List Expr} {to : TE} {t : TA} {apos cpos : Pos} (pa : PlainAttrs T) (slot : Slot T name id) (hty : typeOf (.builtin id) = pure (.type "method_descriptor")) (hm : MtR X id r) (ho : PE X o to) (ha : PA X (e :: es) t)
    (hbase : attributeBase o name X.env (eval o X.env) = eval o X.env := by rfl)
    (hfew : ((backTo cpos (starEach (e :: es) X.env)).all (fun x => !x.1) && (backToKw cpos (keywordEach [] X.env)).all (fun x => x.1.isSome)
      && decide ((e :: es).length + ([] : List Keyword).length + (if ([] : List Keyword).isEmpty then 0 else 1) < 30)) = true := by rfl)
    (hline : (apos.endLine == cpos.line) = true := by rfl) (hs : starEach (e :: es) X.env = (false, eval e X.env) :: starEach es X.env := by rfl) (hplain : (backTo cpos (starEach es X.env)).any (·.1) = false := by rfl) :
    PE X (.Call (.Attribute o name apos) (e :: es) [] cpos) (tBM K T r to t) := by
  subst hK
  exact pe_bm pa slot hty hm ho ha hbase hfew hline hs hplain
theorem pss_false {X : Cx} {b : List Stmt} : PSs X b (fun _ _ _ => False) := ⟨fun pins s σ H D I h => h.elim⟩
end Kx
/-! A list or a tuple walked; check_fact; pairs_of. -/
namespace Kx
open PySem PySem.Spec PyProof.Rows L2
/-- what a list or a tuple holds -/
def Sq (K : PySem.W.Frag) (H : Hp) (a : Addr) (xs : List V) : Prop := SqL K H a xs ∨ SqT K H a xs
def iSeq (K : PySem.W.Frag) (tl : TE) : TI := fun σ H R => tl σ H fun x H1 => ∃ a, x = .ref a ∧ (((∃ xs, SqL K H1 a xs) ∧ R (Itl K a) H1) ∨ ((∃ xs, SqT K H1 a xs) ∧ R (Itt K a) H1))
theorem pi_seq {X : Cx} {tg l : Expr} {tl : TE} (hl : PE X l tl) : PI X tg l (iSeq X.K tl) := by
  refine ⟨fun pins s σ H R I h => ?_⟩
  refine thn (hl.run pins s σ H _ I h) fun v s1 ⟨x, H1, I1, r1, q1⟩ => ?_
  obtain ⟨a, e, q⟩ := q1
  subst e
  cases r1
  rcases q with ⟨⟨xs, hq⟩, q⟩ | ⟨⟨xs, hq⟩, q⟩
  · obtain ⟨its, rv, p, hz⟩ := I1.list hq
    refine wpAny_pyIter_list p.isList ?_
    refine ⟨s1.heap.objs.size, [s1.heap.objs.size], _, _, H1, rfl, I1.kept (t' := s1.toks) fun b o e => Heap.get?_push_of_some _ e, turn_list a _, ⟨_, Heap.get?_push_size _ rfl, rfl, rfl⟩, fun b hb => ?_, q⟩
    have e : b = s1.heap.objs.size := by simpa using hb
    subst e
    exact I1.fpOk (Nat.le_refl _) (I1.hok.fresh (Nat.le_refl _))
  · obtain ⟨its, rv, p, hz⟩ := I1.tuple hq
    refine wpAny_pyIter_tuple (show s1.heap.IsTuple a its.toArray from p) ?_
    refine ⟨s1.heap.objs.size, [s1.heap.objs.size], _, _, H1, rfl, I1.kept (t' := s1.toks) fun b o e => Heap.get?_push_of_some _ e, turn_tuple a _, ⟨_, Heap.get?_push_size _ rfl, rfl, rfl⟩, fun b hb => ?_, q⟩
    have e : b = s1.heap.objs.size := by simpa using hb
    subst e
    exact I1.fpOk (Nat.le_refl _) (I1.hok.fresh (Nat.le_refl _))
end Kx
namespace K12
open PySem PySem.Spec PyProof.Rows L2 Kx
section
variable {P : Program} {w : World} {K : PySem.W.Frag} {mg : Str → Option Value} {base : Heap}
/-- what may be asked whether it is a fact -/
structure Fz (K : PySem.W.Frag) (H : Hp) (x : V) (d : PyData) : Prop where
  dx : Dx K H x d
  sh : shortD d = true
  sz : szD d ≤ 10000
  few : ∀ ps e, d = .tuple [.tuple ps, e] → ps.length ≤ 100
theorem Fz.up {H H' : Hp} {x : V} {d : PyData} (h : Fz K H x d) (s : Same H H') : Fz K H' x d := ⟨h.dx.up s, h.sh, h.sz, h.few⟩
def spCkF (K : PySem.W.Frag) (C : Addr) : Sp := fun vs H Q E => ∃ (x : V) (d : PyData), vs = [x] ∧ Fz K H x d ∧ (factD d = true → ∀ H', Same H H' → Q .non H') ∧ (factD d = false → ∀ H', Same H H' → E (.ref C) none H')
theorem ok_ckf (T : Tx K mg) : FnOk P w K mg base (L2.CX P w) 6 T.acheck_fact T.dcheck_fact ["value"] (spCkF K T.CInvalidFact) := by
  have nd := sc_check_fact.nd
  have G := ok_fact (P := P) (w := w) (base := base) T
  refine T.fcheck_fact.okX sc_check_fact (fun vs H Q E h => ?_) (fun cdv A outer s H vs Q E hr h => ?_)
  · obtain ⟨x, d, rfl, _⟩ := h
    rfl
  obtain ⟨x, d, rfl, hx, q1, q0⟩ := h
  refine ⟨_, (pss_one (ps_if (pt_not (pt_val (pe_call G (hr.mono (by omega)) (by rfl) T.gis_fact T.fis_fact.kp T.nis_fact .nil pass0 (pa_cons (pv 0) pa_nil)))) (pss_one (ps_raise rfl (takes_of rfl rfl rfl rfl) (pmk_own PySem.F.excBase_ValueError T.xInvalidFact T.gInvalidFact T.kInvalidFact (raises_own T.bInvalidFact T.tInvalidFact) (by rfl)))) pss_nil)), ?_⟩
  refine ⟨_, rfl, x, d, rfl, hx.dx, hx.sh, hx.sz, hx.few, fun H' sm => ⟨_, rfl, ?_⟩⟩
  cases t : factD d with
  | false => exact iteT (q0 t H' sm)
  | true => exact iteF (q1 t H' sm)
end
end K12
/-! Sorted lists of data. -/
namespace Kx
open PySem PySem.W PyProof.Rows
def ltR (x y : PyData) : Prop := dataLt x y = true
instance (x y : PyData) : Decidable (ltR x y) := inferInstanceAs (Decidable (_ = true))
theorem ltR_irrefl (x : PyData) : ¬ ltR x x := fun h => by
  have : dataLt x x = false := lex_irrefl _
  unfold ltR at h
  rw [this] at h
  cases h
theorem ltR_trans {x y z : PyData} (h1 : ltR x y) (h2 : ltR y z) : ltR x z := lex_trans _ _ _ h1 h2
theorem ltR_asymm {x y : PyData} (h1 : ltR x y) (h2 : ltR y x) : False := ltR_irrefl x (ltR_trans h1 h2)
/-- two sorted lists with the same members are one -/
theorem uniq_sorted {α : Type} {r : α → α → Prop} (irr : ∀ x, ¬ r x x) (tr : ∀ {x y z}, r x y → r y z → r x z) : ∀ {l m : List α}, l.Pairwise r → m.Pairwise r → (∀ x, x ∈ l ↔ x ∈ m) → l = m
  | [], [], _, _, _ => rfl
  | [], y :: m, _, _, h => by cases (h y).mpr List.mem_cons_self
  | x :: l, [], _, _, h => by cases (h x).mp List.mem_cons_self
  | x :: l, y :: m, hl, hm, h => by
    rw [List.pairwise_cons] at hl hm
    have e : x = y := by
      rcases List.mem_cons.mp ((h x).mp List.mem_cons_self) with e | h1
      · exact e
      · rcases List.mem_cons.mp ((h y).mpr List.mem_cons_self) with e | h2
        · exact e.symm
        · exact absurd (tr (hl.1 y h2) (hm.1 x h1)) (irr x)
    subst e
    have ih : l = m := uniq_sorted irr tr hl.2 hm.2 fun z => by
      constructor
      · intro hz
        rcases List.mem_cons.mp ((h z).mp (List.mem_cons_of_mem _ hz)) with e | h1
        · subst e
          exact absurd (hl.1 z hz) (irr z)
        · exact h1
      · intro hz
        rcases List.mem_cons.mp ((h z).mpr (List.mem_cons_of_mem _ hz)) with e | h1
        · subst e
          exact absurd (hm.1 z hz) (irr z)
        · exact h1
    rw [ih]
theorem uniq_data {l m : List PyData} (hl : l.Pairwise ltR) (hm : m.Pairwise ltR) (h : ∀ x, x ∈ l ↔ x ∈ m) : l = m := uniq_sorted ltR_irrefl ltR_trans hl hm h
/-- what sorted leaves, where no two are alike -/
theorem sort_strict {β : Type} {k : β → PyData} {l : List β} (nd : (l.map fun b => keyToks (k b)).Nodup) : (l.mergeSort (dataLe false k)).Pairwise fun a b => ltR (k a) (k b) := by
  have tr : ∀ a b c : β, dataLe false k a b = true → dataLe false k b c = true → dataLe false k a c = true := fun a b c h1 h2 => by
    have h1 : dataLt (k b) (k a) = false := by simpa [dataLe_eq] using h1
    have h2 : dataLt (k c) (k b) = false := by simpa [dataLe_eq] using h2
    rw [dataLe_eq]
    show (!dataLt (k c) (k a)) = true
    cases h : dataLt (k c) (k a) with
    | false => rfl
    | true =>
      rcases lex_negTrans _ (keyToks (k b)) _ h with z | z
      · exact absurd (show dataLt (k c) (k b) = true from z) (by rw [h2]; decide)
      · exact absurd (show dataLt (k b) (k a) = true from z) (by rw [h1]; decide)
  have tot : ∀ a b : β, (dataLe false k a b || dataLe false k b a) = true := fun a b => by
    rw [dataLe_eq]
    show (!dataLt (k b) (k a) || !dataLt (k a) (k b)) = true
    cases h : dataLt (k b) (k a) with
    | false => rfl
    | true =>
      cases h2 : dataLt (k a) (k b) with
      | false => rfl
      | true => exact (ltR_asymm (x := k b) (y := k a) h h2).elim
  have p := List.pairwise_mergeSort tr tot l
  have nd2 : ((l.mergeSort (dataLe false k)).map fun b => keyToks (k b)).Nodup := ((List.mergeSort_perm l _).map _).nodup_iff.mpr nd
  rw [List.Nodup, List.pairwise_map] at nd2
  refine List.Pairwise.imp₂ (fun {a b} h1 h2 => ?_) p nd2
  have h1 : dataLt (k b) (k a) = false := by simpa [dataLe_eq] using h1
  show dataLt (k a) (k b) = true
  cases h : dataLt (k a) (k b) with
  | true => rfl
  | false => exact absurd (lex_total _ _ h h1) h2
end Kx
/-! The order of texts is the order of terms. -/
namespace K12
open PySem PySem.Spec PyProof.Rows L2 Kx PySem.W
/-- what may stand behind a term -/
def TailOk : List Nat → Prop
  | [] => True
  | c :: _ => c < 97
theorem nm_ord : ∀ (x y : List Nat), (∀ c, c ∈ x → 97 ≤ c) → (∀ c, c ∈ y → 97 ≤ c) → x ≠ y → ∀ u v, TailOk u → TailOk v → (x ++ u < y ++ v ↔ x < y)
  | [], [], _, _, ne, _, _, _, _ => absurd rfl ne
  | [], c :: y, _, hy, _, u, v, hu, _ => by
    have hc := hy c List.mem_cons_self
    refine iff_of_true ?_ (by simp)
    cases u with
    | nil => simp
    | cons d u =>
      have hd : d < 97 := hu
      simp only [List.nil_append, List.cons_append, List.cons_lt_cons_iff]
      omega
  | c :: x, [], hx, _, _, u, v, _, hv => by
    have hc := hx c List.mem_cons_self
    refine iff_of_false ?_ (by simp)
    cases v with
    | nil => simp
    | cons d v =>
      have hd : d < 97 := hv
      simp only [List.nil_append, List.cons_append, List.cons_lt_cons_iff]
      omega
  | c :: x, d :: y, hx, hy, ne, u, v, hu, hv => by
    simp only [List.cons_append, List.cons_lt_cons_iff]
    by_cases e : c = d
    · subst e
      have ih := nm_ord x y (fun z hz => hx z (List.mem_cons_of_mem _ hz)) (fun z hz => hy z (List.mem_cons_of_mem _ hz)) (fun z => ne (by rw [z])) u v hu hv
      simp [ih]
    · simp [e]
theorem pre_ord : ∀ (x u v : List Nat), (x ++ u < x ++ v ↔ u < v)
  | [], _, _ => Iff.rfl
  | c :: x, u, v => by
    have ih := pre_ord x u v
    simp only [List.cons_append, List.cons_lt_cons_iff]
    simp [ih]
theorem letters {x : Str} (h : isNm x = true) : ∀ c, c ∈ x.cps.toList → 97 ≤ c := fun c hc => by
  simp only [isNm, Bool.and_eq_true, decide_eq_true_eq] at h
  have := (Array.all_eq_true'.mp h.2) c (Array.mem_toList_iff.mp hc)
  simp only [letter, Bool.and_eq_true, decide_eq_true_eq] at this
  exact this.1
mutual
theorem alike_formed : ∀ (d e : PyData), formedD d = true → formedD e = true → alike d e = true
  | .tuple (a :: ds), e, hd, he => by
    obtain ⟨y, es, rfl, _, _, hes⟩ := formed_shape he
    obtain ⟨x, ds', ed, _, _, hds⟩ := formed_shape hd
    injection ed with ed
    injection ed with e1 e2
    subst e1 e2
    simp only [alike, alikeAll, Bool.true_and]
    exact alike_formedAll ds es hds hes
  | .tuple [], _, hd, _ => by cases hd
  | .none, _, hd, _ => by cases hd
  | .bool _, _, hd, _ => by cases hd
  | .int _, _, hd, _ => by cases hd
  | .str _, _, hd, _ => by cases hd
  | .list _, _, hd, _ => by cases hd
  | .dict _, _, hd, _ => by cases hd
theorem alike_formedAll : ∀ (ds es : List PyData), formedAll ds = true → formedAll es = true → alikeAll ds es = true
  | [], _, _, _ => by simp [alikeAll]
  | _ :: _, [], _, _ => by simp [alikeAll]
  | d :: ds, e :: es, hd, he => by
    rw [formedAll, Bool.and_eq_true] at hd he
    rw [alikeAll, alike_formed d e hd.1 he.1, alike_formedAll ds es hd.2 he.2]
    rfl
end
mutual
theorem eqv_formed : ∀ (d e : PyData), formedD d = true → formedD e = true → (PyData.eqv d e = true ↔ d = e)
  | .tuple (a :: ds), e, hd, he => by
    obtain ⟨y, es, rfl, _, _, hes⟩ := formed_shape he
    obtain ⟨x, ds', ed, _, _, hds⟩ := formed_shape hd
    injection ed with ed
    injection ed with e1 e2
    subst e1 e2
    have ih := eqv_formedAll ds es hds hes
    rw [PyData.eqv, PyData.eqvAll, PyData.eqv, Bool.and_eq_true, ih, beq_iff_eq]
    simp
  | .tuple [], _, hd, _ => by cases hd
  | .none, _, hd, _ => by cases hd
  | .bool _, _, hd, _ => by cases hd
  | .int _, _, hd, _ => by cases hd
  | .str _, _, hd, _ => by cases hd
  | .list _, _, hd, _ => by cases hd
  | .dict _, _, hd, _ => by cases hd
theorem eqv_formedAll : ∀ (ds es : List PyData), formedAll ds = true → formedAll es = true → (PyData.eqvAll ds es = true ↔ ds = es)
  | [], [], _, _ => by simp [PyData.eqvAll]
  | [], _ :: _, _, _ => by simp [PyData.eqvAll]
  | _ :: _, [], _, _ => by simp [PyData.eqvAll]
  | d :: ds, e :: es, hd, he => by
    rw [formedAll, Bool.and_eq_true] at hd he
    rw [PyData.eqvAll, Bool.and_eq_true, eqv_formed d e hd.1 he.1, eqv_formedAll ds es hd.2 he.2]
    simp
end
/-- some rows of which each name has one number of places -/
abbrev Fn2 (a b : List NK) : Prop := Func (a ++ b)
theorem Func.sub {l m : List NK} (h : Func m) (s : ∀ p, p ∈ l → p ∈ m) : Func l := fun p hp q hq => h p (s p hp) q (s q hq)
mutual
theorem tx_ord : ∀ (d e : PyData), formedD d = true → formedD e = true → Func (rowsD d ++ rowsD e) → d ≠ e → ∀ u v, TailOk u → TailOk v → (tx d ++ u < tx e ++ v ↔ dataLt d e = true)
  | .tuple (a :: ds), e, hd, he, F, ne, u, v, hu, hv => by
    obtain ⟨y, es, rfl, _, hy, hes⟩ := formed_shape he
    obtain ⟨x, ds', ed, _, hx, hds⟩ := formed_shape hd
    injection ed with ed
    injection ed with e1 e2
    subst e1 e2
    rw [dataLt_tuple, dataLt_cons (by simp [alike])]
    simp only [PyData.eqv, beq_iff_eq]
    by_cases exy : x = y
    · subst exy
      rw [if_pos rfl]
      have lenE : ds.length = es.length := F (x, ds.length) (List.mem_append_left _ (by simp [rowsD, headD])) (x, es.length) (List.mem_append_right _ (by simp [rowsD, headD])) rfl
      have ned : ds ≠ es := fun z => ne (by rw [z])
      have FA : Func (rowsAll ds ++ rowsAll es) := F.sub fun p hp => by
        rcases List.mem_append.mp hp with h | h
        · exact List.mem_append_left _ (by rw [rowsD]; exact List.mem_cons_of_mem _ h)
        · exact List.mem_append_right _ (by rw [rowsD]; exact List.mem_cons_of_mem _ h)
      show ((x.cps.toList ++ txA ds) ++ u < (x.cps.toList ++ txA es) ++ v ↔ _)
      rw [List.append_assoc, List.append_assoc, pre_ord]
      exact txA_ord ds es hds hes lenE FA ned u v hu hv
    · rw [if_neg exy, dataLt_str, decide_eq_true_iff]
      show ((x.cps.toList ++ txA ds) ++ u < (y.cps.toList ++ txA es) ++ v ↔ _)
      rw [List.append_assoc, List.append_assoc]
      have tl : ∀ (l : List PyData) (w : List Nat), TailOk w → TailOk (txA l ++ w) := fun l w hw => by
        cases l with
        | nil => exact hw
        | cons _ _ => show 40 < 97; decide
      exact nm_ord _ _ (letters hx) (letters hy) (fun z => exy (str_of_cps z)) _ _ (tl ds u hu) (tl es v hv)
  | .tuple [], _, hd, _, _, _, _, _, _, _ => by cases hd
  | .none, _, hd, _, _, _, _, _, _, _ => by cases hd
  | .bool _, _, hd, _, _, _, _, _, _, _ => by cases hd
  | .int _, _, hd, _, _, _, _, _, _, _ => by cases hd
  | .str _, _, hd, _, _, _, _, _, _, _ => by cases hd
  | .list _, _, hd, _, _, _, _, _, _, _ => by cases hd
  | .dict _, _, hd, _, _, _, _, _, _, _ => by cases hd
theorem txA_ord : ∀ (ds es : List PyData), formedAll ds = true → formedAll es = true → ds.length = es.length → Func (rowsAll ds ++ rowsAll es) → ds ≠ es → ∀ u v, TailOk u → TailOk v → (txA ds ++ u < txA es ++ v ↔ PyProof.Rows.lexLt itemOrd (keyToksAll ds) (keyToksAll es) = true)
  | [], [], _, _, _, _, ne, _, _, _, _ => absurd rfl ne
  | [], _ :: _, _, _, h, _, _, _, _, _, _ => by cases h
  | _ :: _, [], _, _, h, _, _, _, _, _, _ => by cases h
  | d :: ds, e :: es, hd, he, len, F, ne, u, v, hu, hv => by
    rw [formedAll, Bool.and_eq_true] at hd he
    have F1 : Func (rowsD d ++ rowsD e) := F.sub fun p hp => by
      rcases List.mem_append.mp hp with h | h
      · exact List.mem_append_left _ (by rw [rowsAll]; exact List.mem_append_left _ h)
      · exact List.mem_append_right _ (by rw [rowsAll]; exact List.mem_append_left _ h)
    have F2 : Func (rowsAll ds ++ rowsAll es) := F.sub fun p hp => by
      rcases List.mem_append.mp hp with h | h
      · exact List.mem_append_left _ (by rw [rowsAll]; exact List.mem_append_right _ h)
      · exact List.mem_append_right _ (by rw [rowsAll]; exact List.mem_append_right _ h)
    have len2 : ds.length = es.length := by simpa using len
    rw [dataLt_cons (alike_formed d e hd.1 he.1)]
    show (40 :: ((tx d ++ (txM ds ++ [41])) ++ u) < 40 :: ((tx e ++ (txM es ++ [41])) ++ v) ↔ _)
    rw [List.cons_lt_cons_iff]
    have e40 : ∀ p : Prop, ((40 : Nat) < 40 ∨ 40 = 40 ∧ p) ↔ p := fun p => by simp
    rw [e40]
    simp only [List.append_assoc]
    by_cases ede : d = e
    · subst ede
      rw [if_pos ((eqv_formed d d hd.1 hd.1).mpr rfl), pre_ord]
      exact txM_ord ds es hd.2 he.2 len2 F2 (fun z => ne (by rw [z])) _ _ (show 41 < 97 by decide) (show 41 < 97 by decide)
    · rw [if_neg (fun z => ede ((eqv_formed d e hd.1 he.1).mp z))]
      have tl : ∀ (l : List PyData) (w : List Nat), TailOk (txM l ++ (41 :: w)) := fun l w => by
        cases l with
        | nil => show 41 < 97; decide
        | cons _ _ => show 44 < 97; decide
      exact tx_ord d e hd.1 he.1 F1 ede _ _ (tl ds u) (tl es v)
theorem txM_ord : ∀ (ds es : List PyData), formedAll ds = true → formedAll es = true → ds.length = es.length → Func (rowsAll ds ++ rowsAll es) → ds ≠ es → ∀ u v, TailOk u → TailOk v → (txM ds ++ u < txM es ++ v ↔ PyProof.Rows.lexLt itemOrd (keyToksAll ds) (keyToksAll es) = true)
  | [], [], _, _, _, _, ne, _, _, _, _ => absurd rfl ne
  | [], _ :: _, _, _, h, _, _, _, _, _, _ => by cases h
  | _ :: _, [], _, _, h, _, _, _, _, _, _ => by cases h
  | d :: ds, e :: es, hd, he, len, F, ne, u, v, hu, hv => by
    rw [formedAll, Bool.and_eq_true] at hd he
    have F1 : Func (rowsD d ++ rowsD e) := F.sub fun p hp => by
      rcases List.mem_append.mp hp with h | h
      · exact List.mem_append_left _ (by rw [rowsAll]; exact List.mem_append_left _ h)
      · exact List.mem_append_right _ (by rw [rowsAll]; exact List.mem_append_left _ h)
    have F2 : Func (rowsAll ds ++ rowsAll es) := F.sub fun p hp => by
      rcases List.mem_append.mp hp with h | h
      · exact List.mem_append_left _ (by rw [rowsAll]; exact List.mem_append_right _ h)
      · exact List.mem_append_right _ (by rw [rowsAll]; exact List.mem_append_right _ h)
    have len2 : ds.length = es.length := by simpa using len
    rw [dataLt_cons (alike_formed d e hd.1 he.1)]
    show (44 :: ((tx d ++ txM ds) ++ u) < 44 :: ((tx e ++ txM es) ++ v) ↔ _)
    rw [List.cons_lt_cons_iff]
    have e40 : ∀ p : Prop, ((44 : Nat) < 44 ∨ 44 = 44 ∧ p) ↔ p := fun p => by simp
    rw [e40]
    simp only [List.append_assoc]
    by_cases ede : d = e
    · subst ede
      rw [if_pos ((eqv_formed d d hd.1 hd.1).mpr rfl), pre_ord]
      exact txM_ord ds es hd.2 he.2 len2 F2 (fun z => ne (by rw [z])) u v hu hv
    · rw [if_neg (fun z => ede ((eqv_formed d e hd.1 he.1).mp z))]
      have tl : ∀ (l : List PyData) (w : List Nat), TailOk w → TailOk (txM l ++ w) := fun l w hw => by
        cases l with
        | nil => exact hw
        | cons _ _ => show 44 < 97; decide
      exact tx_ord d e hd.1 he.1 F1 ede _ _ (tl ds u hu) (tl es v hv)
end
/-- THE ORDER -/
theorem tx_lt {d e : PyData} (hd : formedD d = true) (he : formedD e = true) (F : Func (rowsD d ++ rowsD e)) : tx d < tx e ↔ ltR d e := by
  by_cases h : d = e
  · subst h
    exact iff_of_false (List.lt_irrefl _) (ltR_irrefl d)
  · have := tx_ord d e hd he F h [] [] trivial trivial
    rwa [List.append_nil, List.append_nil] at this
theorem keyToks_formed {d e : PyData} (hd : formedD d = true) (he : formedD e = true) (h : keyToks d = keyToks e) : d = e := by
  have al := alike_formed d e hd he
  cases q : PyData.eqv d e with
  | true => exact (eqv_formed d e hd he).mp q
  | false =>
    have z := (toks_eqv d e al).2 q [] [.inl 0]
    rw [h, List.append_nil] at z
    have z1 : PyProof.Rows.lexLt itemOrd (keyToks e) (keyToks e) = false := lex_irrefl _
    have z2 := lex_pre (keyToks e) [] [.inl 0]
    rw [List.append_nil, z, z1] at z2
    exact absurd z2 (by decide)
theorem Func.swap {a b : List NK} (F : Func (a ++ b)) : Func (b ++ a) := F.sub fun p hp => by
  rcases List.mem_append.mp hp with h | h
  · exact List.mem_append_right _ h
  · exact List.mem_append_left _ h
theorem tx_inj {d e : PyData} (hd : formedD d = true) (he : formedD e = true) (F : Func (rowsD d ++ rowsD e)) (h : tx d = tx e) : d = e := by
  have n1 : ¬ ltR d e := fun z => List.lt_irrefl _ (h ▸ (tx_lt hd he F).mpr z)
  have n2 : ¬ ltR e d := fun z => List.lt_irrefl _ (h ▸ (tx_lt he hd F.swap).mpr z)
  refine keyToks_formed hd he (lex_total (O := itemOrd) (keyToks d) (keyToks e) ?_ ?_)
  · exact Bool.eq_false_iff.mpr n1
  · exact Bool.eq_false_iff.mpr n2
theorem ltR_tri {d e : PyData} (hd : formedD d = true) (he : formedD e = true) : ltR d e ∨ d = e ∨ ltR e d := by
  cases h1 : dataLt d e with
  | true => exact .inl h1
  | false =>
    cases h2 : dataLt e d with
    | true => exact .inr (.inr h2)
    | false => exact .inr (.inl (keyToks_formed hd he (lex_total (O := itemOrd) (keyToks d) (keyToks e) h1 h2)))
end K12
/-! What stands in a dict behind d[k] = v. -/
namespace Kx
open PySem PySem.Spec PyProof.Rows L2
section
variable {κ : Type} [DecidableEq κ] {kvs : List (κ × V)} {k : κ} {v : V}
theorem any_key : (kvs.any fun kv => decide (kv.1 = k)) = true ↔ k ∈ kvs.map Prod.fst := by
  rw [List.any_eq_true, List.mem_map]
  exact ⟨fun ⟨p, hp, e⟩ => ⟨p, hp, of_decide_eq_true e⟩, fun ⟨p, hp, e⟩ => ⟨p, hp, decide_eq_true e⟩⟩
theorem fst_put_in (h : k ∈ kvs.map Prod.fst) : (putK kvs k v).map Prod.fst = kvs.map Prod.fst := by
  unfold putK
  rw [if_pos (any_key.mpr h), List.map_map]
  refine List.map_congr_left fun p _ => ?_
  show (if p.1 = k then (p.1, v) else p).1 = p.1
  split <;> rfl
theorem fst_put_new (h : k ∉ kvs.map Prod.fst) : (putK kvs k v).map Prod.fst = kvs.map Prod.fst ++ [k] := by
  unfold putK
  rw [if_neg (fun z => h (any_key.mp z)), List.map_append]
  rfl
theorem nodup_put (nd : (kvs.map Prod.fst).Nodup) : ((putK kvs k v).map Prod.fst).Nodup := by
  by_cases h : k ∈ kvs.map Prod.fst
  · rw [fst_put_in h]
    exact nd
  · rw [fst_put_new h, List.nodup_append]
    exact ⟨nd, by simp, fun a ha b hb => by rw [List.mem_singleton.mp hb]; intro e; exact h (e ▸ ha)⟩
theorem mem_fst_put {x : κ} : x ∈ (putK kvs k v).map Prod.fst ↔ x ∈ kvs.map Prod.fst ∨ x = k := by
  by_cases h : k ∈ kvs.map Prod.fst
  · rw [fst_put_in h]
    exact ⟨.inl, fun z => z.elim id fun e => e ▸ h⟩
  · rw [fst_put_new h, List.mem_append, List.mem_singleton]
theorem mem_put {p : κ × V} (h : p ∈ putK kvs k v) : p = (k, v) ∨ (p ∈ kvs ∧ p.1 ≠ k) := by
  unfold putK at h
  split at h
  · obtain ⟨q, hq, rfl⟩ := List.mem_map.mp h
    by_cases e : q.1 = k
    · rw [if_pos e, e]
      exact .inl rfl
    · rw [if_neg e]
      exact .inr ⟨hq, e⟩
  · rename_i n
    rcases List.mem_append.mp h with h | h
    · exact .inr ⟨h, fun e => n (any_key.mpr (List.mem_map.mpr ⟨p, h, e⟩))⟩
    · exact .inl (List.mem_singleton.mp h)
theorem mem_of_val : ∀ {kvs : List (κ × V)}, valV kvs k = some v → (k, v) ∈ kvs
  | [], h => by simp [valV_nil] at h
  | p :: kvs, h => by
    by_cases e : p.1 = k
    · rw [valV_pos e] at h
      obtain ⟨a, b⟩ := p
      cases h
      cases e
      exact List.mem_cons_self
    · rw [valV_neg e] at h
      exact List.mem_cons_of_mem _ (mem_of_val h)
theorem val_of_mem : ∀ {kvs : List (κ × V)}, (kvs.map Prod.fst).Nodup → (k, v) ∈ kvs → valV kvs k = some v
  | p :: kvs, nd, h => by
    rw [List.map_cons, List.nodup_cons] at nd
    rcases List.mem_cons.mp h with e | h
    · subst e
      exact valV_pos rfl
    · have ne : p.1 ≠ k := fun z => nd.1 (by rw [z]; exact List.mem_map.mpr ⟨_, h, rfl⟩)
      rw [valV_neg ne]
      exact val_of_mem nd.2 h
end
end Kx
/-! pairs_of: how many stay. -/
namespace K12
open PySem PySem.Spec PyProof.Rows L2 Kx
section
variable {P : Program} {w : World} {K : PySem.W.Frag} {mg : Str → Option Value} {base : Heap}
/-- both sides have one text -/
def eqC : PyData → Prop
  | .tuple [a, b] => tx a = tx b
  | _ => True
theorem tx_tri {l m : List Nat} (h1 : ¬ l < m) (h2 : ¬ m < l) : l = m := by
  exact List.le_antisymm (List.not_lt.mp h2) (List.not_lt.mp h1)
theorem Sq.up {H H' : Hp} {a : Addr} {xs : List V} (s : Same H H') (h : Sq K H a xs) : Sq K H' a xs := h.elim (fun h => .inl (s.seq h)) fun h => .inr (Same.tup s h)
theorem put_ne {kvs : List (List Key × V)} {k : List Key} {v : V} : putK kvs k v ≠ [] := by
  unfold putK
  split
  · rename_i h
    intro z
    rw [List.map_eq_nil_iff.mp z] at h
    cases h
  · simp
theorem put_keys {kvs : List (List Key × V)} {k : List Key} {v : V} (p : List Key × V) (hp : p ∈ putK kvs k v) : p.1 = k ∨ ∃ q, q ∈ kvs ∧ q.1 = p.1 := by
  unfold putK at hp
  split at hp
  · obtain ⟨q, hq, rfl⟩ := List.mem_map.mp hp
    refine .inr ⟨q, hq, ?_⟩
    split <;> rfl
  · rcases List.mem_append.mp hp with h | h
    · exact .inr ⟨p, h, rfl⟩
    · rw [List.mem_singleton.mp h]
      exact .inl rfl
def PoKeys (kvs : List (List Key × V)) : Prop := ∀ p, p ∈ kvs → ∃ x y : Str, p.1 = [Sum.inr x, Sum.inr y]
theorem po_put {kvs : List (List Key × V)} {x y : Str} {v : V} (h : PoKeys kvs) : PoKeys (putK kvs [Sum.inr x, Sum.inr y] v) := fun p hp => by
  rcases put_keys p hp with e | ⟨q, hq, e⟩
  · exact ⟨x, y, e⟩
  · rw [← e]
    exact h q hq
theorem val_mem {k : List Key} : ∀ {kvs : List (List Key × V)}, k ∈ kvs.map Prod.fst → ∃ v, valV kvs k = some v
  | p :: l, h => by
    by_cases e : p.1 = k
    · exact ⟨p.2, valV_pos e⟩
    · rw [List.map_cons, List.mem_cons] at h
      rcases h with h | h
      · exact absurd h.symm e
      · rw [valV_neg e]
        exact val_mem h
def ForR (J : It) (g : TG) (tb : TS) (D : L2.Ends) (σ : L2.St) (H : Hp) : Prop := ∃ W : Nat → Nat → L2.St → Hp → Prop, (∃ m, W 0 m σ H) ∧ ∀ i m σ H, W i m σ H →
  (J.stop i H ∧ D.nx σ H) ∨ (J.go i H ∧ ∃ N : L2.St → Hp → Prop, (∀ σ' H', N σ' H' → ∃ m', m' < m ∧ W (i + 1) m' σ' H') ∧ ∀ x H', J.yld i H x H' → g x σ H' fun σ2 H2 => tb { D with nx := N, ct := N, bk := D.nx } σ2 H2)
theorem for_seq {a : Addr} {xs : List V} {g : TG} {tb : TS} {D : L2.Ends} {σ : L2.St} {H H0 : Hp} (h : Sq K H0 a xs) (s0 : Same H0 H) (Pv : Nat → L2.St → Hp → Prop) (h0 : Pv 0 σ H) (hl : ∀ i σ G, i ≤ xs.length → Pv i σ G → Same H0 G)
    (hs : ∀ i x σ H, xs[i]? = some x → Pv i σ H → g x σ H fun σ2 H2 => tb { D with nx := Pv (i + 1), ct := Pv (i + 1), bk := D.nx } σ2 H2) (hd : ∀ σ H, Pv xs.length σ H → D.nx σ H) :
    ((∃ xs, SqL K H a xs) ∧ ForR (Itl K a) g tb D σ H) ∨ ((∃ xs, SqT K H a xs) ∧ ForR (Itt K a) g tb D σ H) := by
  rcases h with h | h
  · exact .inl ⟨⟨xs, s0.seq h⟩, for_list Pv h0 (fun i σ G hi p => (hl i σ G hi p).seq h) hs hd⟩
  · exact .inr ⟨⟨xs, Same.tup s0 h⟩, for_tup Pv h0 (fun i σ G hi p => Same.tup (hl i σ G hi p) h) hs hd⟩
/-- a pair of ds, turned so that the lesser text comes first -/
def Nz (ds : List PyData) (a b : PyData) : Prop := tx a < tx b ∧ (PyData.tuple [a, b] ∈ ds ∨ PyData.tuple [b, a] ∈ ds)
structure Prs (ds L : List PyData) : Prop where
  mem : ∀ z, z ∈ L ↔ ∃ a b, z = .tuple [a, b] ∧ Nz ds a b
  srt : L.Pairwise ltR
def Cpl (d : PyData) : Prop := ∃ a b, d = .tuple [a, b] ∧ Wr a ∧ Wr b
def keyP (a b : PyData) : List Key := [Sum.inr (tS (tx a)), Sum.inr (tS (tx b))]
def keyL : PyData → List Key
  | .tuple [a, b] => keyP a b
  | _ => []
theorem tS_inj {l m : List Nat} (h : tS l = tS m) : l = m := by
  have := congrArg (fun x : Str => x.cps.toList) h
  simpa [tS] using this
theorem keyP_inj {a b c d : PyData} (h : keyP a b = keyP c d) : tx a = tx c ∧ tx b = tx d := by
  unfold keyP at h
  simp only [List.cons.injEq, and_true, Sum.inr.injEq] at h
  exact ⟨tS_inj h.1, tS_inj h.2⟩
/-- all terms of ds formed, each name with one number of places -/
structure Cns (ds : List PyData) : Prop where
  c : ∀ d, d ∈ ds → Cpl d
  f : Func (rowsAll (sidesD ds))
theorem rows_side {ds : List PyData} : ∀ {x : PyData}, x ∈ ds → ∀ p, p ∈ rowsD x → p ∈ rowsAll ds := fun {x} hx p hp => by
  induction ds with
  | nil => cases hx
  | cons d ds ih =>
    rw [rowsAll]
    rcases List.mem_cons.mp hx with rfl | h
    · exact List.mem_append_left _ hp
    · exact List.mem_append_right _ (ih h)
theorem Cns.side {ds : List PyData} (C : Cns ds) {a b : PyData} (h : PyData.tuple [a, b] ∈ ds ∨ PyData.tuple [b, a] ∈ ds) : (formedD a = true ∧ formedD b = true) ∧ a ∈ sidesD ds ∧ b ∈ sidesD ds := by
  rcases h with h | h
  · obtain ⟨a', b', e, wa, wb⟩ := C.c _ h
    simp only [PyData.tuple.injEq, List.cons.injEq, and_true] at e
    obtain ⟨rfl, rfl⟩ := e
    exact ⟨⟨wa.f, wb.f⟩, List.mem_flatMap.mpr ⟨_, h, by simp [sidesOf]⟩, List.mem_flatMap.mpr ⟨_, h, by simp [sidesOf]⟩⟩
  · obtain ⟨b', a', e, wb, wa⟩ := C.c _ h
    simp only [PyData.tuple.injEq, List.cons.injEq, and_true] at e
    obtain ⟨rfl, rfl⟩ := e
    exact ⟨⟨wa.f, wb.f⟩, List.mem_flatMap.mpr ⟨_, h, by simp [sidesOf]⟩, List.mem_flatMap.mpr ⟨_, h, by simp [sidesOf]⟩⟩
theorem Cns.two {ds : List PyData} (C : Cns ds) {x y : PyData} (hx : x ∈ sidesD ds) (hy : y ∈ sidesD ds) : Func (rowsD x ++ rowsD y) := C.f.sub fun p hp => by
  rcases List.mem_append.mp hp with h | h
  · exact rows_side hx p h
  · exact rows_side hy p h
theorem nz_mono {l m : List PyData} (s : ∀ z, z ∈ l → z ∈ m) {a b : PyData} (h : Nz l a b) : Nz m a b := ⟨h.1, h.2.imp (s _) (s _)⟩
theorem nz_inj {ds : List PyData} (C : Cns ds) {a b c d : PyData} (h1 : Nz ds a b) (h2 : Nz ds c d) (e : keyP a b = keyP c d) : a = c ∧ b = d := by
  obtain ⟨e1, e2⟩ := keyP_inj e
  obtain ⟨⟨fa, fb⟩, ma, mb⟩ := C.side h1.2
  obtain ⟨⟨fc, fd⟩, mc, md⟩ := C.side h2.2
  exact ⟨tx_inj fa fc (C.two ma mc) e1, tx_inj fb fd (C.two mb md) e2⟩
theorem lt_str_key {x y : List Nat} : PySem.W.dataLt (.str (tS x)) (.str (tS y)) = decide (x < y) := by
  rw [PySem.W.dataLt_str]
  refine decide_eq_decide.mpr ?_
  simp [tS]
/-- keys in the order of their pairs -/
theorem key_lt {ds : List PyData} (C : Cns ds) {a b c d : PyData} (h1 : Nz ds a b) (h2 : Nz ds c d) : ltR (tupD (keyP a b)) (tupD (keyP c d)) ↔ ltR (.tuple [a, b]) (.tuple [c, d]) := by
  obtain ⟨⟨fa, fb⟩, ma, mb⟩ := C.side h1.2
  obtain ⟨⟨fc, fd⟩, mc, md⟩ := C.side h2.2
  unfold ltR
  rw [show tupD (keyP a b) = .tuple [.str (tS (tx a)), .str (tS (tx b))] from rfl, show tupD (keyP c d) = .tuple [.str (tS (tx c)), .str (tS (tx d))] from rfl]
  rw [PySem.W.dataLt_pair (by simp [PySem.W.alike]) (by simp [PySem.W.alike]), PySem.W.dataLt_pair (alike_formed a c fa fc) (alike_formed b d fb fd)]
  have q1 : (PyData.eqv (.str (tS (tx a))) (.str (tS (tx c))) = true) ↔ (PyData.eqv a c = true) := by
    rw [PyData.eqv, beq_iff_eq, eqv_formed a c fa fc]
    exact ⟨fun e => tx_inj fa fc (C.two ma mc) (tS_inj e), fun e => by rw [e]⟩
  have q2 : (PyData.eqv (.str (tS (tx b))) (.str (tS (tx d))) = true) ↔ (PyData.eqv b d = true) := by
    rw [PyData.eqv, beq_iff_eq, eqv_formed b d fb fd]
    exact ⟨fun e => tx_inj fb fd (C.two mb md) (tS_inj e), fun e => by rw [e]⟩
  rw [lt_str_key, lt_str_key]
  have l1 := tx_lt fa fc (C.two ma mc)
  have l2 := tx_lt fb fd (C.two mb md)
  unfold ltR at l1 l2
  by_cases h1 : PyData.eqv a c = true
  · rw [if_pos h1, if_pos (q1.mpr h1)]
    by_cases h2 : PyData.eqv b d = true
    · rw [if_pos h2, if_pos (q2.mpr h2)]
    · rw [if_neg h2, if_neg (fun z => h2 (q2.mp z)), decide_eq_true_iff]
      exact l2
  · rw [if_neg h1, if_neg (fun z => h1 (q1.mp z)), decide_eq_true_iff]
    exact l1
/-- the dict of pairs behind some couples -/
structure PoD (K : PySem.W.Frag) (G : Hp) (ds : List PyData) (kvs : List (List Key × V)) : Prop where
  nd : (kvs.map Prod.fst).Nodup
  at_ : ∀ p, p ∈ kvs → ∃ a b, p.1 = keyP a b ∧ Dx K G p.2 (.tuple [a, b]) ∧ Nz ds a b
  all : ∀ a b, Nz ds a b → keyP a b ∈ kvs.map Prod.fst
theorem pure_two {a b : PyData} (fa : formedD a = true) (fb : formedD b = true) : pureD (.tuple [a, b]) = true := by
  simp [pureD, pureAll, pure_formed _ fa, pure_formed _ fb]
theorem PoD.put {K : PySem.W.Frag} {G G' : Hp} {ds : List PyData} {z : PyData} {kvs : List (List Key × V)} {a b : PyData} {v : V} (h : PoD K G ds kvs) (C : Cns ds) (t : Tups G G') (dv : Dx K G' v (.tuple [a, b])) (nz : Nz (ds ++ [z]) a b) (ez : z = .tuple [a, b] ∨ z = .tuple [b, a]) : PoD K G' (ds ++ [z]) (putK kvs (keyP a b) v) := by
  refine ⟨nodup_put h.nd, fun p hp => ?_, fun c d hcd => ?_⟩
  · rcases mem_put hp with rfl | ⟨hp, _⟩
    · exact ⟨a, b, rfl, dv, nz⟩
    · obtain ⟨c, d, e, dp, n⟩ := h.at_ p hp
      obtain ⟨⟨fc, fd⟩, _⟩ := C.side n.2
      exact ⟨c, d, e, Dx.ts t _ _ (pure_two fc fd) dp, nz_mono (fun _ hz => List.mem_append_left _ hz) n⟩
  · rw [mem_fst_put]
    have key : ∀ x y : PyData, PyData.tuple [x, y] = z → (tx x = tx a ∧ tx y = tx b) ∨ (tx x = tx b ∧ tx y = tx a) := fun x y e => by
      rcases ez with rfl | rfl
      · simp only [PyData.tuple.injEq, List.cons.injEq, and_true] at e
        obtain ⟨rfl, rfl⟩ := e
        exact .inl ⟨rfl, rfl⟩
      · simp only [PyData.tuple.injEq, List.cons.injEq, and_true] at e
        obtain ⟨rfl, rfl⟩ := e
        exact .inr ⟨rfl, rfl⟩
    have fin : ∀ x y : PyData, tx x < tx y → ((tx x = tx a ∧ tx y = tx b) ∨ (tx x = tx b ∧ tx y = tx a)) → keyP x y = keyP a b := fun x y l e => by
      rcases e with ⟨e1, e2⟩ | ⟨e1, e2⟩
      · unfold keyP
        rw [e1, e2]
      · rw [e1, e2] at l
        exact absurd (List.lt_trans l nz.1) (List.lt_irrefl _)
    rcases hcd.2 with m | m
    · rcases List.mem_append.mp m with m | m
      · exact .inl (h.all c d ⟨hcd.1, .inl m⟩)
      · exact .inr (fin c d hcd.1 (key c d (List.mem_singleton.mp m)))
    · rcases List.mem_append.mp m with m | m
      · exact .inl (h.all c d ⟨hcd.1, .inr m⟩)
      · exact .inr (fin c d hcd.1 ((key d c (List.mem_singleton.mp m)).symm.imp And.symm And.symm))
theorem PoD.skip {K : PySem.W.Frag} {G G' : Hp} {ds : List PyData} {kvs : List (List Key × V)} {a b : PyData} (h : PoD K G ds kvs) (C : Cns ds) (t : Tups G G') (e : tx a = tx b) : PoD K G' (ds ++ [.tuple [a, b]]) kvs := by
  refine ⟨h.nd, fun p hp => ?_, fun c d hcd => ?_⟩
  · obtain ⟨c, d, e, dp, n⟩ := h.at_ p hp
    obtain ⟨⟨fc, fd⟩, _⟩ := C.side n.2
    exact ⟨c, d, e, Dx.ts t _ _ (pure_two fc fd) dp, nz_mono (fun _ hz => List.mem_append_left _ hz) n⟩
  · have no : ∀ x y : PyData, PyData.tuple [x, y] = .tuple [a, b] → tx x = tx y := fun x y z => by
      simp only [PyData.tuple.injEq, List.cons.injEq, and_true] at z
      obtain ⟨rfl, rfl⟩ := z
      exact e
    rcases hcd.2 with m | m
    · rcases List.mem_append.mp m with m | m
      · exact h.all c d ⟨hcd.1, .inl m⟩
      · exact absurd hcd.1 (by rw [no c d (List.mem_singleton.mp m)]; exact List.lt_irrefl _)
    · rcases List.mem_append.mp m with m | m
      · exact h.all c d ⟨hcd.1, .inr m⟩
      · exact absurd hcd.1 (by rw [no d c (List.mem_singleton.mp m)]; exact List.lt_irrefl _)
theorem Cns.take {ds : List PyData} (C : Cns ds) (i : Nat) : Cns (ds.take i) := by
  refine ⟨fun d hd => C.c d (List.mem_of_mem_take hd), C.f.sub fun p hp => ?_⟩
  have : ∀ l : List PyData, p ∈ rowsAll l → ∃ x, x ∈ l ∧ p ∈ rowsD x := fun l => by
    induction l with
    | nil => intro h; cases h
    | cons d l ih =>
      intro h
      rw [rowsAll] at h
      rcases List.mem_append.mp h with h | h
      · exact ⟨d, List.mem_cons_self, h⟩
      · obtain ⟨x, hx, h⟩ := ih h
        exact ⟨x, List.mem_cons_of_mem _ hx, h⟩
  obtain ⟨x, hx, hp⟩ := this _ hp
  obtain ⟨d, hd, hx⟩ := List.mem_flatMap.mp hx
  exact rows_side (List.mem_flatMap.mpr ⟨d, List.mem_of_mem_take hd, hx⟩) p hp
def spPo (K : PySem.W.Frag) : Sp := fun vs H Q _ => ∃ (a : Addr) (xs : List V) (ds : List PyData), vs = [.ref a] ∧ Sq K H a xs ∧ DxAll K H xs ds ∧ Cns ds ∧ ds.length ≤ 300 ∧
  ∀ p vs L H', Same H H' → H' p = some (.tup vs) → DxAll K H' vs L → Prs ds L → Q (.ref p) H'
theorem ok_po (T : Tx K mg) : FnOk P w K mg base CX0 3 T.apairs_of T.dpairs_of ["couples"] (spPo K) := by
  have nd := sc_pairs_of.nd
  have G := ok_key (P := P) (w := w) (base := base) T
  refine T.fpairs_of.ok sc_pairs_of (fun vs H Q E h => ?_) (fun cdv A outer s H vs Q E hr h => ?_)
  · obtain ⟨a, xs, ds, rfl, _⟩ := h
    rfl
  obtain ⟨a, xs, ds, rfl, ha, hx, C, few, q⟩ := h
  have hu := hu_of hr
  refine ⟨_, (pss_cons (ps_set (i := 1) nd rfl (.inr rfl) pe_dnewT)
      (pss_cons (ps_for PassesOwn.never rfl (pi_seq (pv 0)) (pg_tup rfl (pgs_cons (pg_name (i := 2) nd rfl (.inl rfl)) (pgs_cons (pg_name (i := 3) nd rfl (.inl rfl)) pgs_nil))) (pss_cons (ps_asg (pe_call G (hr.mono (by omega)) (by rfl) T.gkey_of T.fkey_of.kp T.nkey_of .nil pass0 (pa_cons (pe_tup (pa_cons (pv 2) (pa_cons (pv 3) pa_nil))) pa_nil)) (pg_tup rfl (pgs_cons (pg_name (i := 4) nd rfl (.inl rfl)) (pgs_cons (pg_name (i := 5) nd rfl (.inl rfl)) pgs_nil))))
      (pss_one (ps_if (pt_cmpR op_lt_str (pv 4) (pv 5) (nomark _)) (pss_one (ps_asg (pe_tup (pa_cons (pv 2) (pa_cons (pv 3) pa_nil))) (pg_sub (pv 1) (pe_tup (pa_cons (pv 4) (pa_cons (pv 5) pa_nil))) (set_dict hu)))) (pss_one (ps_if (pt_cmpR op_lt_str (pv 5) (pv 4) (nomark _)) (pss_one (ps_asg (pe_tup (pa_cons (pv 3) (pa_cons (pv 2) pa_nil))) (pg_sub (pv 1) (pe_tup (pa_cons (pv 5) (pa_cons (pv 4) pa_nil))) (set_dict hu)))) pss_nil))))))
      (pss_one (ps_ret (pe_callTy call_tuple_of (by rfl) T.b_tuple (by decide +kernel) (pa_cons (pe_lc (own := [("key", 6)]) (g := (gName 6)) (tt := tYes) (by rfl) nd (pi_list (pe_callB (cr_sortedKT rfl hr.units) (by rfl) T.b_sorted (by decide +kernel) (pa_cons (pv 1) pa_nil))) (blkOk_by (own := [("key", 6)]) (N := N_pairs_of) (sc := defScope s_pairs_of) (by decide +kernel)) (fun _ _ _ _ _ => pg_name (i := 6) nd rfl (.inl rfl)) (fun _ _ _ _ _ => pts_nil) (fun _ _ _ _ _ => (pe_dget hu (pv 1) (pv 6) (fun _ _ => rfl)))) pa_nil)))))), ?_⟩
  intro fd nfd
  have s1 : Same H (upd H fd (.dT [])) := same_put nfd
  have lx := hx.length
  refine ⟨_, rfl, a, rfl, for_seq (xs := xs) ha s1 (fun i σ G => (∃ y2 y3 y4 y5 y6, σ = [some (.ref a), some (.ref fd), y2, y3, y4, y5, y6]) ∧ Same H G ∧ ∃ kvs, G fd = some (.dT kvs) ∧ PoD K G (ds.take i) kvs ∧ kvs.length ≤ i) ?_ (fun i σ G _ h => h.2.1) ?_ ?_⟩
  · refine ⟨⟨none, none, none, none, none, rfl⟩, s1, [], upd_same, ⟨List.nodup_nil, (fun p hp => by cases hp), fun a b h => ?_⟩, Nat.le_refl _⟩
    rw [List.take_zero] at h
    rcases h.2 with z | z <;> cases z
  · rintro i x σ G hi ⟨⟨y2, y3, y4, y5, y6, rfl⟩, sG, kvs, ef, pk, lk⟩
    have lti : i < ds.length := by rw [← lx]; exact (List.getElem?_eq_some_iff.mp hi).1
    have gd := List.getElem?_eq_getElem lti
    obtain ⟨v2, hv2, dv⟩ := hx.get gd
    rw [hi] at hv2
    cases hv2
    obtain ⟨ta, tb, eab, wa, wb⟩ := C.c _ (List.getElem_mem lti)
    rw [eab] at dv gd
    obtain ⟨q0, u, v3, rfl, hq0, du, dv3⟩ := dx_couple dv
    have et : ds.take (i + 1) = ds.take i ++ [.tuple [ta, tb]] := by rw [List.take_add_one, gd]; rfl
    refine ⟨q0, _, rfl, SqT.of (sG _ _ hq0), rfl, _, _, rfl, _, _, rfl, rfl, ?_⟩
    refine ⟨_, rfl, _, rfl, by show 2 ≤ sizeLine; decide, fun c nc => ?_⟩
    have s2 := same_put (o := .tup [u, v3]) nc
    have sH2 := sG.trans s2
    have ef2 := s2 _ _ ef
    have ec2 : (upd G c (.tup [u, v3])) c = some (.tup [u, v3]) := upd_same
    generalize upd G c (.tup [u, v3]) = G2 at s2 sH2 ef2 ec2 ⊢
    refine ⟨c, u, v3, ta, tb, rfl, ec2, du.up sH2, dv3.up sH2, wa, wb, fun k G3 s3 nk hk => ?_⟩
    refine ⟨k, _, rfl, SqT.of hk, rfl, _, _, rfl, _, _, rfl, rfl, ?_⟩
    have ef3 := s3 _ _ ef2
    have sH3 := sH2.trans s3
    refine ⟨_, rfl, _, rfl, _, _, rfl, rfl, _, rfl, ?_⟩
    have lkv : kvs.length < sizeLine := small1000 (by omega)
    have put : ∀ (c2 k2 : Addr) (ob : HO) (x y : Str), G3 c2 = none → (upd G3 c2 ob) k2 = none →
        Same H (upd (upd (upd G3 c2 ob) k2 (.tup ([Sum.inr x, Sum.inr y].map kV))) fd (.dT (putK kvs [Sum.inr x, Sum.inr y] (.ref c2)))) ∧ (upd (upd G3 c2 ob) k2 (.tup ([Sum.inr x, Sum.inr y].map kV))) fd = some (.dT kvs) ∧
        Tups (upd G3 c2 ob) (upd (upd (upd G3 c2 ob) k2 (.tup ([Sum.inr x, Sum.inr y].map kV))) fd (.dT (putK kvs [Sum.inr x, Sum.inr y] (.ref c2)))) := fun c2 k2 ob x y n1 n2 => by
      have t1 := same_put (o := ob) n1
      have t2 := same_put (o := .tup ([Sum.inr x, Sum.inr y].map kV)) n2
      refine ⟨fun b o hb => ?_, t2 _ _ (t1 _ _ ef3), fun b us hb => ?_⟩
      · rw [upd_ne (ne_of_none hb nfd)]
        exact t2 _ _ (t1 _ _ (sH3 _ _ hb))
      · rw [upd_ne (ne_of hb (t1 _ _ ef3) (fun e => nomatch e))]
        exact t2 _ _ hb
    by_cases h1 : tx ta < tx tb
    · rw [show decide ((tS (tx ta)).cps.toList < (tS (tx tb)).cps.toList) = true from decide_eq_true h1]
      refine iteT ?_
      refine ⟨_, rfl, _, rfl, by show 2 ≤ sizeLine; decide, fun c2 nc2 => ⟨_, rfl, _, rfl, _, rfl, by show 2 ≤ sizeLine; decide, fun k2 nk2 => ?_⟩⟩
      obtain ⟨z1, z2, z3⟩ := put c2 k2 (.tup [u, v3]) (tS (tx ta)) (tS (tx tb)) nc2 nk2
      refine ⟨fd, _, rfl, DPut.t (k := [Sum.inr (tS (tx ta)), Sum.inr (tS (tx tb))]) z2 upd_same lkv, ⟨_, _, _, _, _, rfl⟩, z1, _, upd_same, ?_, ?_⟩
      · rw [et]
        refine PoD.put pk (C.take i) ((Tups.of (s2.trans (s3.trans (same_put nc2)))).trans z3) ?_ ⟨h1, .inl (by simp)⟩ (.inl rfl)
        exact Dx.ts z3 _ _ (pure_two wa.f wb.f) (.tup upd_same (.cons (du.up (sH3.trans (same_put nc2))) (.cons (dv3.up (sH3.trans (same_put nc2))) .nil)))
      · have := length_putK kvs [Sum.inr (tS (tx ta)), Sum.inr (tS (tx tb))] (.ref c2)
        omega
    · rw [show decide ((tS (tx ta)).cps.toList < (tS (tx tb)).cps.toList) = false from decide_eq_false h1]
      refine iteF ?_
      refine ⟨_, rfl, _, rfl, _, _, rfl, rfl, _, rfl, ?_⟩
      by_cases h2 : tx tb < tx ta
      · rw [show decide ((tS (tx tb)).cps.toList < (tS (tx ta)).cps.toList) = true from decide_eq_true h2]
        refine iteT ?_
        refine ⟨_, rfl, _, rfl, by show 2 ≤ sizeLine; decide, fun c2 nc2 => ⟨_, rfl, _, rfl, _, rfl, by show 2 ≤ sizeLine; decide, fun k2 nk2 => ?_⟩⟩
        obtain ⟨z1, z2, z3⟩ := put c2 k2 (.tup [v3, u]) (tS (tx tb)) (tS (tx ta)) nc2 nk2
        refine ⟨fd, _, rfl, DPut.t (k := [Sum.inr (tS (tx tb)), Sum.inr (tS (tx ta))]) z2 upd_same lkv, ⟨_, _, _, _, _, rfl⟩, z1, _, upd_same, ?_, ?_⟩
        · rw [et]
          refine PoD.put pk (C.take i) ((Tups.of (s2.trans (s3.trans (same_put nc2)))).trans z3) ?_ ⟨h2, .inr (by simp)⟩ (.inr rfl)
          exact Dx.ts z3 _ _ (pure_two wb.f wa.f) (.tup upd_same (.cons (dv3.up (sH3.trans (same_put nc2))) (.cons (du.up (sH3.trans (same_put nc2))) .nil)))
        · have := length_putK kvs [Sum.inr (tS (tx tb)), Sum.inr (tS (tx ta))] (.ref c2)
          omega
      · rw [show decide ((tS (tx tb)).cps.toList < (tS (tx ta)).cps.toList) = false from decide_eq_false h2]
        have e := tx_tri h1 h2
        refine iteF ⟨⟨_, _, _, _, _, rfl⟩, sH3, kvs, ef3, ?_, Nat.le_succ_of_le lk⟩
        rw [et]
        exact PoD.skip pk (C.take i) (Tups.of (s2.trans s3)) e
  · rintro σ G ⟨⟨y2, y3, y4, y5, y6, rfl⟩, sG, kvs, ef, pk, lk⟩
    rw [lx, List.take_length] at pk
    refine ⟨_, rfl, fd, kvs, rfl, ef, ?_, ?_, fun zs p np ez hz => ?_⟩
    · intro d hd d' hd'
      obtain ⟨p, hp, rfl⟩ := List.mem_map.mp hd
      obtain ⟨p', hp', rfl⟩ := List.mem_map.mp hd'
      obtain ⟨x, y, e, _⟩ := pk.at_ p hp
      obtain ⟨x', y', e', _⟩ := pk.at_ p' hp'
      rw [e, e']
      rfl
    · intro p hp
      obtain ⟨x, y, e, _⟩ := pk.at_ p hp
      rw [e]
      simp [keyP]
    · obtain ⟨zz, ezz⟩ : ∃ zz, zz = zs.mergeSort (PySem.W.dataLe false fun z => tupD z.2) := ⟨_, rfl⟩
      rw [← ezz]
      have pz : zz.Perm zs := by rw [ezz]; exact List.mergeSort_perm _ _
      have mz : ∀ z, z ∈ zz → z.2 ∈ kvs.map Prod.fst := fun z hz => by rw [← ez]; exact List.mem_map.mpr ⟨z, pz.mem_iff.mp hz, rfl⟩
      have mk : ∀ k, k ∈ kvs.map Prod.fst → ∃ z, z ∈ zz ∧ z.2 = k := fun k hk => by
        rw [← ez] at hk
        obtain ⟨z, hz, e⟩ := List.mem_map.mp hk
        exact ⟨z, pz.mem_iff.mpr hz, e⟩
      have nz : ∀ z, z ∈ zz → ∃ a b, z.2 = keyP a b ∧ Nz ds a b := fun z hz => by
        obtain ⟨q, hq, e⟩ := List.mem_map.mp (mz z hz)
        obtain ⟨a, b, e2, _, n⟩ := pk.at_ q hq
        exact ⟨a, b, by rw [← e, e2], n⟩
      have srt : zz.Pairwise fun x y => ltR (tupD x.2) (tupD y.2) := by
        rw [ezz]
        refine sort_strict ?_
        have nk : (zs.map fun z => tupD z.2) = (kvs.map Prod.fst).map tupD := by
          rw [← ez, List.map_map]
          rfl
        have nd1 : ((kvs.map Prod.fst).map fun k => PySem.W.keyToks (tupD k)).Nodup := by
          rw [List.Nodup, List.pairwise_map]
          refine List.Pairwise.imp_of_mem (fun {x y} hx hy ne e => ne ?_) pk.nd
          obtain ⟨p1, hp1, e1⟩ := List.mem_map.mp hx
          obtain ⟨p2, hp2, e2⟩ := List.mem_map.mp hy
          obtain ⟨a, b, k1, _⟩ := pk.at_ p1 hp1
          obtain ⟨c, d, k2, _⟩ := pk.at_ p2 hp2
          rw [← e1, ← e2, k1, k2] at e ⊢
          simp only [tupD, keyP, List.map_cons, List.map_nil, keyD, PySem.W.keyToks, PySem.W.keyToksAll, List.cons_append, List.nil_append, List.cons.injEq, Sum.inr.injEq, and_true, true_and] at e ⊢
          exact ⟨congrArg tS (by simpa [tS] using e.1), congrArg tS (by simpa [tS] using e.2)⟩
        have : (zs.map fun b => PySem.W.keyToks (tupD b.2)) = ((kvs.map Prod.fst).map fun k => PySem.W.keyToks (tupD k)) := by
          rw [← ez, List.map_map]
          rfl
        rw [this]
        exact nd1
      have lz : zz.length = kvs.length := by
        rw [pz.length_eq, ← List.length_map (f := Prod.snd), ez, List.length_map]
      have sp := same_put (o := .lst (zz.map fun z => V.ref z.1)) np
      have ef1 := sp _ _ ef
      have hz1 : ∀ z, z ∈ zz → (upd G p (.lst (zz.map fun z => V.ref z.1))) z.1 = some (.tup (z.2.map kV)) := fun z h => sp _ _ (hz z (pz.mem_iff.mp h))
      have ep1 : (upd G p (.lst (zz.map fun z => V.ref z.1))) p = some (.lst (zz.map fun z => V.ref z.1)) := upd_same
      have sG1 := sG.trans sp
      have at1 : ∀ q, q ∈ kvs → ∃ a b, q.1 = keyP a b ∧ Dx K (upd G p (.lst (zz.map fun z => V.ref z.1))) q.2 (.tuple [a, b]) ∧ Nz ds a b := fun q hq => by
        obtain ⟨a, b, e, dq, n⟩ := pk.at_ q hq
        exact ⟨a, b, e, dq.up sp, n⟩
      generalize upd G p (.lst (zz.map fun z => V.ref z.1)) = G1 at ef1 hz1 ep1 sG1 at1 ⊢
      refine ⟨p, rfl, ⟨_, SqL.of ep1⟩, fun D nD => ?_⟩
      refine lc_list (K := K) (a := p) (xs := zz.map fun z => V.ref z.1) (fun i G2 => Same G1 G2 ∧ ∃ vs L, G2 D = some (.lst vs) ∧ DxAll K G1 vs L ∧ L.map keyL = (zz.take i).map Prod.snd ∧ ∀ z, z ∈ L → ∃ a b, z = .tuple [a, b] ∧ Nz ds a b) ⟨same_put nD, [], [], upd_same, .nil, rfl, (fun z hz => by cases hz)⟩ (fun i G2 _ h => SqL.of (h.1 _ _ ep1)) ?_ ?_
      · rintro i x G2 hi ⟨sG2, vs, L, eD, dL, eL, nL⟩
        rw [List.getElem?_map] at hi
        obtain ⟨z, hzi, rfl⟩ := Option.map_eq_some_iff.mp hi
        have mzz := List.mem_of_getElem? hzi
        have lti := (List.getElem?_eq_some_iff.mp hzi).1
        obtain ⟨v, hv⟩ := val_mem (mz z mzz)
        obtain ⟨a', b', ek, dv, n⟩ := at1 _ (mem_of_val hv)
        refine ⟨rfl, (iteT (B := False) ?_ : if true = true then _ else False)⟩
        refine ⟨_, rfl, _, rfl, fd, v, rfl, .inr ⟨kvs, z.2, z.1, .inl (sG2 _ _ ef1), rfl, sG2 _ _ (hz1 z mzz), hv.symm⟩, vs, eD, ?_, fun c o hc => ?_, vs ++ [v], L ++ [.tuple [a', b']], upd_same, DxAll.append dL (.cons dv .nil), ?_, ?_⟩
        · have l2 := dL.length
          have l3 := congrArg List.length eL
          rw [List.length_map, List.length_map, List.length_take] at l3
          exact small1000 (by omega)
        · rw [upd_ne (ne_of_none hc nD)]
          exact sG2 c o hc
        · rw [List.map_append, eL, List.take_add_one, hzi, List.map_append]
          show _ ++ [keyL (.tuple [a', b'])] = _ ++ [z.2]
          rw [show keyL (.tuple [a', b']) = keyP a' b' from rfl, ← ek]
        · intro y hy
          rcases List.mem_append.mp hy with hy | hy
          · exact nL y hy
          · exact ⟨a', b', List.mem_singleton.mp hy, n⟩
      · rintro G2 ⟨sG2, vs, L, eD, dL, eL, nL⟩
        rw [List.length_map, List.take_length] at eL
        refine ⟨D, vs, rfl, .inl ⟨SqL.of eD, fun l nl => q l vs L _ (sG1.trans (sG2.trans (same_put nl))) upd_same (dL.up (sG2.trans (same_put nl))) ⟨fun z => ⟨nL z, ?_⟩, ?_⟩⟩⟩
        · rintro ⟨a', b', rfl, n⟩
          obtain ⟨z, hz, e⟩ := mk _ (pk.all a' b' n)
          have : keyP a' b' ∈ L.map keyL := by rw [eL, ← e]; exact List.mem_map.mpr ⟨z, hz, rfl⟩
          obtain ⟨y, hy, ey⟩ := List.mem_map.mp this
          obtain ⟨c, d, rfl, n2⟩ := nL y hy
          obtain ⟨e1, e2⟩ := nz_inj C n2 n ey
          rw [e1, e2] at hy
          exact hy
        · have s2 : (L.map keyL).Pairwise fun x y => ltR (tupD x) (tupD y) := by
            rw [eL, List.pairwise_map]
            exact srt
          rw [List.pairwise_map] at s2
          refine List.Pairwise.imp_of_mem (fun {x y} hx hy h => ?_) s2
          obtain ⟨c, d, rfl, n1⟩ := nL x hx
          obtain ⟨c', d', rfl, n2⟩ := nL y hy
          exact (key_lt C n1 n2).mp h
end
end K12
/-! fact_of, and what the functions of facts raise. -/
namespace K12
open PySem PySem.Spec PyProof.Rows L2 Kx
section
variable {P : Program} {w : World} {K : PySem.W.Frag} {mg : Str → Option Value} {base : Heap}
theorem Cns.sub {ds es : List PyData} (C : Cns ds) (s : ∀ d, d ∈ es → d ∈ ds) : Cns es := by
  refine ⟨fun d hd => C.c d (s d hd), C.f.sub fun p hp => ?_⟩
  have : ∀ l : List PyData, p ∈ rowsAll l → ∃ x, x ∈ l ∧ p ∈ rowsD x := fun l => by
    induction l with
    | nil => intro h; cases h
    | cons d l ih =>
      intro h
      rw [rowsAll] at h
      rcases List.mem_append.mp h with h | h
      · exact ⟨d, List.mem_cons_self, h⟩
      · obtain ⟨x, hx, h⟩ := ih h
        exact ⟨x, List.mem_cons_of_mem _ hx, h⟩
  obtain ⟨x, hx, hp⟩ := this _ hp
  obtain ⟨d, hd, hx⟩ := List.mem_flatMap.mp hx
  exact rows_side (List.mem_flatMap.mpr ⟨d, s d hd, hx⟩) p hp
theorem Prs.uniq {ds es L M : List PyData} (h : Prs ds L) (h2 : Prs es M) (e : ∀ a b, Nz ds a b ↔ Nz es a b) : L = M := uniq_data h.srt h2.srt fun x => by
  rw [h.mem, h2.mem]
  exact exists_congr fun a => exists_congr fun b => by rw [e]
/-- what fact_of makes -/
def FoD (ds : List PyData) (e r : PyData) : Prop := ∃ L, Prs ds L ∧ ((e = .none ∧ r = .tuple [.tuple L, .none]) ∨ ∃ a b, e = .tuple [a, b] ∧ ((tx a = tx b ∧ r = .none) ∨ (tx a < tx b ∧ r = .tuple [.tuple L, .tuple [a, b]]) ∨ (tx b < tx a ∧ r = .tuple [.tuple L, .tuple [b, a]])))
theorem FoD.uniq {ds es : List PyData} {e r r' : PyData} (h : FoD ds e r) (h2 : FoD es e r') (q : ∀ a b, Nz ds a b ↔ Nz es a b) : r = r' := by
  obtain ⟨L, p, h⟩ := h
  obtain ⟨M, p2, h2⟩ := h2
  have el := p.uniq p2 q
  subst el
  rcases h with ⟨e1, e2⟩ | ⟨a, b, e1, h⟩
  · rcases h2 with ⟨_, e4⟩ | ⟨c, d, e3, _⟩
    · rw [e2, e4]
    · rw [e1] at e3; cases e3
  · rcases h2 with ⟨e3, _⟩ | ⟨c, d, e3, h2⟩
    · rw [e1] at e3; cases e3
    · rw [e1] at e3
      simp only [PyData.tuple.injEq, List.cons.injEq, and_true] at e3
      obtain ⟨rfl, rfl⟩ := e3
      rcases h with ⟨l, h⟩ | ⟨l, h⟩ | ⟨l, h⟩ <;> rcases h2 with ⟨m, h2⟩ | ⟨m, h2⟩ | ⟨m, h2⟩
      · rw [h, h2]
      · rw [l] at m; exact absurd m (List.lt_irrefl _)
      · rw [l] at m; exact absurd m (List.lt_irrefl _)
      · rw [m] at l; exact absurd l (List.lt_irrefl _)
      · rw [h, h2]
      · exact absurd (List.lt_trans l m) (List.lt_irrefl _)
      · rw [m] at l; exact absurd l (List.lt_irrefl _)
      · exact absurd (List.lt_trans l m) (List.lt_irrefl _)
      · rw [h, h2]
def spFo (K : PySem.W.Frag) : Sp := fun vs H Q _ => ∃ (a : Addr) (x : V) (e : PyData) (xs : List V) (ds : List PyData), vs = [x, .ref a] ∧ Dx K H x e ∧ Sq K H a xs ∧ DxAll K H xs ds ∧ Cns ds ∧ ds.length ≤ 300 ∧ (e ≠ .none → Cns [e]) ∧
  ∀ y r H', Same H H' → Dx K H' y r → FoD ds e r → Q y H'
theorem ok_fo (T : Tx K mg) : FnOk P w K mg base CX0 4 T.afact_of T.dfact_of ["conclusion", "conditions"] (spFo K) := by
  have nd := sc_fact_of.nd
  have G := ok_po (P := P) (w := w) (base := base) T
  refine T.ffact_of.ok sc_fact_of (fun vs H Q E h => ?_) (fun cdv A outer s H vs Q E hr h => ?_)
  · obtain ⟨a, x, e, xs, ds, rfl, _⟩ := h
    rfl
  obtain ⟨a, x, e, xs, ds, rfl, hx, ha, hd, hc, few, ce, q⟩ := h
  refine ⟨_, (pss_cons (ps_set (i := 2) nd rfl (.inl rfl) (pe_call G (hr.mono (by omega)) (by rfl) T.gpairs_of T.fpairs_of.kp T.npairs_of .nil pass0 (pa_cons (pv 1) pa_nil)))
      (pss_cons (ps_if (pt_cmpR op_isN (pv 0) pe_non (nomark _)) (pss_one (ps_ret (pe_tup (pa_cons (pv 2) (pa_cons pe_non pa_nil))))) pss_nil)
      (pss_cons (ps_set (i := 3) nd rfl (.inl rfl) (pe_call G (hr.mono (by omega)) (by rfl) T.gpairs_of T.fpairs_of.kp T.npairs_of .nil pass0 (pa_cons (pe_lst (pa_cons (pv 0) pa_nil)) pa_nil)))
      (pss_one (ps_ret (pe_ifExp (pt_truth (pv 3) (by intro _; rfl)) (pe_tup (pa_cons (pv 2) (pa_cons (pe_ix ix_tup (pv 3) pe_int (fun _ _ => rfl)) pa_nil))) pe_non)))))), ?_⟩
  refine ⟨_, rfl, a, xs, ds, rfl, ha, hd, hc, few, fun p vs L H1 s1 hp dL pL => ?_⟩
  refine ⟨_, rfl, rfl, _, rfl, ?_⟩
  by_cases ex : x = .non
  · have ee := (dx_nil hx).mpr ex
    subst ex ee
    refine iteT ⟨_, rfl, by show 2 ≤ sizeLine; decide, fun p2 np2 => q _ _ _ (s1.trans (same_put np2)) (.tup upd_same (.cons (.tup ((same_put np2) _ _ hp) (dL.up (same_put np2))) (.cons .non .nil))) ⟨L, pL, .inl ⟨rfl, rfl⟩⟩⟩
  · have ee : e ≠ .none := fun z => ex ((dx_nil hx).mp z)
    rw [decide_eq_false ex]
    refine iteF ?_
    have Ce := ce ee
    obtain ⟨ta, tb, rfl, wa, wb⟩ := Ce.c e (List.mem_singleton_self _)
    refine ⟨_, rfl, by show 1 ≤ sizeLine; decide, fun l nl => ?_⟩
    have sl := same_put (o := .lst [x]) nl
    have s2 := s1.trans sl
    have el : (upd H1 l (.lst [x])) l = some (.lst [x]) := upd_same
    have hp1 := sl _ _ hp
    have dL1 := dL.up sl
    generalize upd H1 l (.lst [x]) = H2 at s2 el hp1 dL1 ⊢
    refine ⟨l, [x], [.tuple [ta, tb]], rfl, .inl (SqL.of el), .cons (hx.up s2) .nil, Ce, by simp, fun p3 vs3 M H3 s3 hp3 dM pM => ?_⟩
    refine ⟨_, rfl, _, .inr (.inl ⟨vs3, SqT.of hp3, rfl⟩), ?_⟩
    have one : ∀ c d, Nz [.tuple [ta, tb]] c d → (c = ta ∧ d = tb) ∨ (c = tb ∧ d = ta) := fun c d n => by
      rcases n.2 with m | m
      · have := List.mem_singleton.mp m
        simp only [PyData.tuple.injEq, List.cons.injEq, and_true] at this
        exact .inl this
      · have := List.mem_singleton.mp m
        simp only [PyData.tuple.injEq, List.cons.injEq, and_true] at this
        exact .inr ⟨this.2, this.1⟩
    cases dM with
    | nil =>
      refine iteF (q _ _ _ (s2.trans s3) .non ⟨L, pL, .inr ⟨ta, tb, rfl, .inl ⟨tx_tri (fun z => ?_) (fun z => ?_), rfl⟩⟩⟩)
      · have := (pM.mem (.tuple [ta, tb])).mpr ⟨ta, tb, rfl, z, .inl (List.mem_singleton_self _)⟩
        cases this
      · have := (pM.mem (.tuple [tb, ta])).mpr ⟨tb, ta, rfl, z, .inr (List.mem_singleton_self _)⟩
        cases this
    | @cons y ys z zs dy dys =>
      refine iteT ⟨_, rfl, _, rfl, p3, _, 0, y, rfl, rfl, SqT.of hp3, atI_nat (j := 0) rfl, by show 2 ≤ sizeLine; decide, fun l2 nl2 => ?_⟩
      obtain ⟨c, d, rfl, n⟩ := (pM.mem z).mp List.mem_cons_self
      have s4 := same_put (o := .tup [.ref p, y]) nl2
      refine q _ (.tuple [.tuple L, .tuple [c, d]]) _ (s2.trans (s3.trans s4)) (.tup upd_same (.cons (.tup (s4 _ _ (s3 _ _ hp1)) (dL1.up (s3.trans s4))) (.cons (dy.up s4) .nil))) ⟨L, pL, .inr ⟨ta, tb, rfl, .inr ?_⟩⟩
      rcases one c d n with ⟨rfl, rfl⟩ | ⟨rfl, rfl⟩
      · exact .inl ⟨n.1, rfl⟩
      · exact .inr ⟨n.1, rfl⟩
end
end K12
/-! Facts in parts. -/
namespace K12
open PySem PySem.Spec PyProof.Rows L2 Kx
section
variable {P : Program} {w : World} {K : PySem.W.Frag} {mg : Str → Option Value} {base : Heap}
/-- all pairs of a fact -/
def prsD : PyData → List PyData
  | .tuple [.tuple ps, e] => ps ++ endOf e
  | _ => []
/-- a fact's parts -/
theorem fact_shape {d : PyData} (h : factD d = true) : ∃ ps e, d = .tuple [.tuple ps, e] ∧ couplesD (ps ++ endOf e) = true := by
  match d, h with
  | .tuple [a, e], h =>
    match a, h with
    | .tuple ps, h =>
      have h : (couplesD (ps ++ endOf e) && ((ps ++ endOf e).all ordC && chainD (ps.map keyC))) = true := h
      rw [Bool.and_eq_true] at h
      exact ⟨ps, e, rfl, h.1⟩
theorem dx_fact {H : Hp} {x : V} {ps : List PyData} {e : PyData} (h : Dx K H x (.tuple [.tuple ps, e])) : ∃ (f t : Addr) (us : List V) (v : V), x = .ref f ∧ H f = some (.tup [.ref t, v]) ∧ H t = some (.tup us) ∧ DxAll K H us ps ∧ Dx K H v e := by
  obtain ⟨f, u, v, rfl, hf, hu, hv⟩ := dx_couple h
  cases hu with
  | @tup t us _ ht hus => exact ⟨f, t, us, v, rfl, hf, ht, hus, hv⟩
theorem fz_parts {H : Hp} {x : V} {ps : List PyData} {e : PyData} (h : Fz K H x (.tuple [.tuple ps, e])) : ps.length ≤ 100 ∧ (ps ++ endOf e).length ≤ 101 ∧ shortAll (ps ++ endOf e) = true ∧ szAll (ps ++ endOf e) ≤ 10000 := by
  have fps := h.few ps e rfl
  have sh2 : shortAll ps = true ∧ shortD e = true := by
    have : shortAll [.tuple ps, e] = true := h.sh
    simpa [shortAll, shortD] using this
  have sz := h.sz
  have l1 : (endOf e).length ≤ 1 := by cases e <;> simp [endOf]
  have z1 : szAll (endOf e) ≤ szD e := by cases e <;> simp [endOf, szAll, szD]
  refine ⟨fps, by rw [List.length_append]; omega, ?_, ?_⟩
  · rw [shortAll_append, sh2.1, Bool.true_and]
    have := sh2.2
    cases e <;> simp_all [endOf, shortAll]
  · rw [szAll_append]
    simp only [szD, szAll] at sz
    omega
theorem noB {b : Bool} {p : Prop} (h : b = false) : b = true → p := fun z => by rw [h] at z; cases z
theorem couples_cns {ds : List PyData} (h : couplesD ds = true) (z : szAll ds ≤ 10000) : Cns ds := by
  refine ⟨couples_wr h z, ?_⟩
  simp only [couplesD, jointD, Bool.and_eq_true, decide_eq_true_eq] at h
  exact h.2.2
end
theorem pure_cpl : ∀ {l : List PyData}, (∀ d, d ∈ l → Cpl d) → pureAll l = true
  | [], _ => rfl
  | d :: l, h => by
    obtain ⟨a, b, rfl, wa, wb⟩ := h d List.mem_cons_self
    rw [pureAll, pure_cpl fun d hd => h d (List.mem_cons_of_mem _ hd)]
    simp [pureD, pureAll, pure_formed _ wa.f, pure_formed _ wb.f]
theorem nodup_len {α : Type} : ∀ {l m : List α}, l.Nodup → (∀ x, x ∈ l → x ∈ m) → l.length ≤ m.length
  | [], _, _, _ => Nat.zero_le _
  | x :: l, m, nd, h => by
    haveI : DecidableEq α := fun a b => Classical.propDecidable (a = b)
    rw [List.nodup_cons] at nd
    have mx := h x List.mem_cons_self
    have ih := nodup_len (l := l) (m := m.erase x) nd.2 fun y hy => (List.mem_erase_of_ne (fun (e : y = x) => nd.1 (e ▸ hy))).mpr (h y (List.mem_cons_of_mem _ hy))
    rw [List.length_erase_of_mem mx] at ih
    have : 0 < m.length := List.length_pos_of_mem mx
    rw [List.length_cons]
    omega
theorem rows_mem {p : NK} : ∀ {l : List PyData}, p ∈ rowsAll l → ∃ x, x ∈ l ∧ p ∈ rowsD x
  | [], h => by cases h
  | d :: l, h => by
    rw [rowsAll] at h
    rcases List.mem_append.mp h with h | h
    · exact ⟨d, List.mem_cons_self, h⟩
    · obtain ⟨x, hx, h⟩ := rows_mem h
      exact ⟨x, List.mem_cons_of_mem _ hx, h⟩
theorem Cns.sides {ds es : List PyData} (C : Cns ds) (h : ∀ d, d ∈ es → Cpl d) (s : ∀ x, x ∈ sidesD es → x ∈ sidesD ds) : Cns es :=
  ⟨h, C.f.sub fun p hp => by
    obtain ⟨x, hx, hp⟩ := rows_mem hp
    exact rows_side (s x hx) p hp⟩
/-- the couple turned, or as it is -/
def normC : PyData → PyData
  | .tuple [a, b] => if tx a < tx b then .tuple [a, b] else .tuple [b, a]
  | d => d
theorem Prs.len {ds L : List PyData} (p : Prs ds L) : L.length ≤ ds.length := by
  have nd : L.Nodup := p.srt.imp (S := fun a b => a ≠ b) fun {x y} (h : ltR x y) (e : x = y) => ltR_irrefl y (e ▸ h)
  have := nodup_len (m := ds.map normC) nd fun z hz => by
    obtain ⟨a, b, rfl, l, m⟩ := (p.mem z).mp hz
    rcases m with m | m
    · exact List.mem_map.mpr ⟨_, m, by show (if tx a < tx b then _ else _) = _; rw [if_pos l]⟩
    · exact List.mem_map.mpr ⟨_, m, by show (if tx b < tx a then _ else _) = _; rw [if_neg fun z => List.lt_irrefl _ (List.lt_trans l z)]⟩
  rwa [List.length_map] at this
theorem Cns.cpl {ds : List PyData} (C : Cns ds) {a b : PyData} (h : PyData.tuple [a, b] ∈ ds ∨ PyData.tuple [b, a] ∈ ds) : Cpl (.tuple [a, b]) := by
  rcases h with h | h
  · exact C.c _ h
  · obtain ⟨b', a', e, wb, wa⟩ := C.c _ h
    simp only [PyData.tuple.injEq, List.cons.injEq, and_true] at e
    obtain ⟨rfl, rfl⟩ := e
    exact ⟨a, b, rfl, wa, wb⟩
/-- sorted pairs of ds beside some of ds -/
theorem Prs.cns {ds es L ms : List PyData} (C : Cns ds) (p : Prs es L) (sub : ∀ d, d ∈ es → d ∈ ds) (sm : ∀ d, d ∈ ms → d ∈ ds) : Cns (L ++ ms) := by
  refine C.sides (fun d hd => ?_) fun x hx => ?_
  · rcases List.mem_append.mp hd with hd | hd
    · obtain ⟨a, b, rfl, _, m⟩ := (p.mem d).mp hd
      exact C.cpl (m.imp (sub _) (sub _))
    · exact C.c d (sm d hd)
  · obtain ⟨d, hd, hx⟩ := List.mem_flatMap.mp hx
    rcases List.mem_append.mp hd with hd | hd
    · obtain ⟨a, b, rfl, _, m⟩ := (p.mem d).mp hd
      obtain ⟨_, ma, mb⟩ := C.side (m.imp (sub _) (sub _))
      simp only [sidesOf, List.mem_cons, List.not_mem_nil, or_false] at hx
      rcases hx with rfl | rfl
      · exact ma
      · exact mb
    · exact List.mem_flatMap.mpr ⟨d, sm d hd, hx⟩
end K12
/-! == and != of data, deep ones. -/
namespace Kx
open PySem PySem.Spec PyProof.Rows L2
section
variable {X : Cx}
/-- == and != of data, deep ones -/
def rEqF (K : PySem.W.Frag) : R2 := fun x y H Q => ∃ d e, Dp K H x d ∧ Dp K H y e ∧ d.canLay0 = true ∧ e.canLay0 = true ∧ d.depth ≤ 190 ∧ Q (.bl (PyData.eqv d e)) H
def rNeF (K : PySem.W.Frag) : R2 := fun x y H Q => ∃ d e, Dp K H x d ∧ Dp K H y e ∧ d.canLay0 = true ∧ e.canLay0 = true ∧ d.depth ≤ 190 ∧ Q (.bl (!PyData.eqv d e)) H
theorem op_eqF (hu : X.A.units + 200 < cLine) : OpR X (compareOp .Eq) (rEqF X.K) := by
  intro pins s σ H x y v u Q I rx ry h
  obtain ⟨d, e, hd, he, sd, se, z, q⟩ := h
  obtain ⟨as, r1⟩ := Dp.reads I d x v hd rx
  obtain ⟨bs, r2⟩ := Dp.reads I e y u he ry
  exact SeqAt.compareEq_reads r1 r2 sd se (by have := Nat.min_le_left d.depth e.depth; omega) ⟨.bl _, H, I, rfl, q⟩
theorem op_neF (hu : X.A.units + 200 < cLine) : OpR X (compareOp .NotEq) (rNeF X.K) := by
  intro pins s σ H x y v u Q I rx ry h
  obtain ⟨d, e, hd, he, sd, se, z, q⟩ := h
  obtain ⟨as, r1⟩ := Dp.reads I d x v hd rx
  obtain ⟨bs, r2⟩ := Dp.reads I e y u he ry
  exact SeqAt.compareNe_reads r1 r2 sd se (by have := Nat.min_le_left d.depth e.depth; omega) ⟨.bl _, H, I, rfl, q⟩
end
theorem room200 {k : Nat} {A : Around} (r : Room k A) : A.units + 200 < cLine := by
  have := r.un
  omega
end Kx
/-! cut. -/
namespace K12
open PySem PySem.Spec PyProof.Rows L2 Kx
theorem letters_le {x : Str} (h : isNm x = true) : ∀ c, c ∈ x.cps.toList → c ≤ 122 := fun c hc => by
  simp only [isNm, Bool.and_eq_true, decide_eq_true_eq] at h
  have := (Array.all_eq_true'.mp h.2) c (Array.mem_toList_iff.mp hc)
  simp only [letter, Bool.and_eq_true, decide_eq_true_eq] at this
  exact this.2
mutual
theorem tx_small : ∀ (d : PyData), formedD d = true → ∀ c, c ∈ tx d → c ≤ 122
  | .tuple (a :: ds), hd, c, hc => by
    obtain ⟨x, ds', ed, _, hx, hds⟩ := formed_shape hd
    injection ed with ed
    injection ed with e1 e2
    subst e1 e2
    have hc : c ∈ x.cps.toList ++ txA ds := hc
    rcases List.mem_append.mp hc with h | h
    · exact letters_le hx c h
    · exact txA_small ds hds c h
  | .tuple [], hd, _, _ => by cases hd
  | .none, hd, _, _ => by cases hd
  | .bool _, hd, _, _ => by cases hd
  | .int _, hd, _, _ => by cases hd
  | .str _, hd, _, _ => by cases hd
  | .list _, hd, _, _ => by cases hd
  | .dict _, hd, _, _ => by cases hd
theorem txA_small : ∀ (ds : List PyData), formedAll ds = true → ∀ c, c ∈ txA ds → c ≤ 122
  | [], _, _, hc => by cases hc
  | d :: ds, h, c, hc => by
    rw [formedAll, Bool.and_eq_true] at h
    rw [txA] at hc
    rcases List.mem_cons.mp hc with rfl | hc
    · decide
    · rcases List.mem_append.mp hc with hc | hc
      · exact tx_small d h.1 c hc
      · rcases List.mem_append.mp hc with hc | hc
        · exact txM_small ds h.2 c hc
        · rw [List.mem_singleton.mp hc]
          decide
theorem txM_small : ∀ (ds : List PyData), formedAll ds = true → ∀ c, c ∈ txM ds → c ≤ 122
  | [], _, _, hc => by cases hc
  | d :: ds, h, c, hc => by
    rw [formedAll, Bool.and_eq_true] at h
    rw [txM] at hc
    rcases List.mem_cons.mp hc with rfl | hc
    · decide
    · rcases List.mem_append.mp hc with hc | hc
      · exact tx_small d h.1 c hc
      · exact txM_small ds h.2 c hc
end
theorem tx_ok {d : PyData} (h : formedD d = true) : PyData.strOk (tS (tx d)) = true := by
  refine Array.all_eq_true'.mpr fun c hc => ?_
  have := tx_small d h c (by simpa [tS] using hc)
  exact decide_eq_true (by omega)
theorem cpl_key {z : PyData} (h : Cpl z) : (keyC z).canLay0 = true ∧ (keyC z).depth ≤ 64 ∧ pureD (keyC z) = true ∧ (keyC z).hasDict = false := by
  obtain ⟨a, b, rfl, wa, wb⟩ := h
  refine ⟨by simp [keyC, PyData.canLay0, PyData.canLayAll0, tx_ok wa.f, tx_ok wb.f], by simp [keyC, PyData.depth, PyData.depthAll], rfl, rfl⟩
/-- keys are equal where the pairs are -/
theorem key_eqv {ds : List PyData} (C : Cns ds) {x y : PyData} (hx : x ∈ ds) (hy : y ∈ ds) : PyData.eqv (keyC x) (keyC y) = true ↔ x = y := by
  obtain ⟨a, b, rfl, wa, wb⟩ := C.c x hx
  obtain ⟨c, d, rfl, wc, wd⟩ := C.c y hy
  obtain ⟨_, ma, mb⟩ := C.side (.inl hx)
  obtain ⟨_, mc, md⟩ := C.side (.inl hy)
  simp only [keyC, PyData.eqv, PyData.eqvAll, Bool.and_true, Bool.and_eq_true, beq_iff_eq]
  constructor
  · rintro ⟨e1, e2⟩
    rw [tx_inj wa.f wc.f (C.two ma mc) (tS_inj e1), tx_inj wb.f wd.f (C.two mb md) (tS_inj e2)]
  · intro e
    simp only [PyData.tuple.injEq, List.cons.injEq, and_true] at e
    rw [e.1, e.2]
    exact ⟨rfl, rfl⟩
theorem eqv_cpl {x y : PyData} (hx : Cpl x) (hy : Cpl y) : PyData.eqv x y = true ↔ x = y := by
  obtain ⟨a, b, rfl, wa, wb⟩ := hx
  obtain ⟨c, d, rfl, wc, wd⟩ := hy
  simp only [PyData.eqv, PyData.eqvAll, Bool.and_true, Bool.and_eq_true, eqv_formed a c wa.f wc.f, eqv_formed b d wb.f wd.f, PyData.tuple.injEq, List.cons.injEq, and_true]
theorem room65 {k : Nat} {A : Around} (r : Room k A) : A.units + 65 < cLine := by
  have := room200 r
  omega
section
variable {P : Program} {w : World} {K : PySem.W.Frag} {mg : Str → Option Value} {base : Heap}
def spSay (K : PySem.W.Frag) : Sp := fun vs H Q _ => ∃ (x : V) (L : List PyData) (c : PyData), vs = [x] ∧ Dx K H x (.tuple [.tuple L, c]) ∧ Cns (L ++ endOf c) ∧ L.length ≤ 300 ∧
  ∀ b H', Same H H' → (b = true ↔ c ≠ .none ∧ c ∈ L) → Q (.bl b) H'
theorem ok_say (T : Tx K mg) : FnOk P w K mg base CX0 3 T.asays_nothing T.dsays_nothing ["fact"] (spSay K) := by
  have nd := sc_says_nothing.nd
  have G := ok_key (P := P) (w := w) (base := base) T
  refine T.fsays_nothing.ok sc_says_nothing (fun vs H Q E h => ?_) (fun cdv A outer s H vs Q E hr h => ?_)
  · obtain ⟨x, L, c, rfl, _⟩ := h
    rfl
  obtain ⟨x, L, c, rfl, hx, C, few, q⟩ := h
  refine ⟨_, (pss_one (ps_ret (pe_and (pe_cmpR op_notN (pe_ix ix_tup (pv 0) pe_int (fun _ _ => rfl)) pe_non (nomark _)) (pe_one (pe_cmpR (op_inD (room65 hr)) (pe_call G (hr.mono (by omega)) (by rfl) T.gkey_of T.fkey_of.kp T.nkey_of .nil pass0 (pa_cons (pe_ix ix_tup (pv 0) pe_int (fun _ _ => rfl)) pa_nil)) (pe_lc (own := [("pair", 1)]) (g := (gName 1)) (tt := tYes) (by rfl) nd (pi_tup (pe_ix ix_tup (pv 0) pe_int (fun _ _ => rfl))) (blkOk_by (own := [("pair", 1)]) (N := N_says_nothing) (sc := defScope s_says_nothing) (by decide +kernel)) (fun _ _ _ _ _ => pg_name (i := 1) nd rfl (.inl rfl)) (fun _ _ _ _ _ => pts_nil) (fun _ _ _ _ _ => (pe_call G (hr.mono (by omega)) (by rfl) T.gkey_of T.fkey_of.kp T.nkey_of .nil pass0 (pa_cons (pv 1) pa_nil)))) (by rfl)))))), ?_⟩
  obtain ⟨f, t, us, v, rfl, hf, ht, hus, hv⟩ := dx_fact hx
  refine ⟨_, rfl, f, _, 1, v, rfl, rfl, SqT.of hf, atI_nat (j := 1) rfl, rfl, _, rfl, ?_⟩
  by_cases ev : v = .non
  · have ee := (dx_nil hv).mpr ev
    subst ev
    exact iteF (q false H (Same.refl H) ⟨(fun z => by cases z), fun z => absurd ee z.1⟩)
  · have ee : c ≠ .none := fun z => ev ((dx_nil hv).mp z)
    rw [decide_eq_false ev]
    rw [endOf_some ee] at C
    obtain ⟨ta, tb, rfl, wa, wb⟩ := C.c c (List.mem_append_right _ (List.mem_singleton_self _))
    obtain ⟨q0, u, v3, rfl, hq0, du, dv3⟩ := dx_couple hv
    refine iteT ⟨_, rfl, f, _, 1, .ref q0, rfl, rfl, SqT.of hf, atI_nat (j := 1) rfl, ?_⟩
    refine ⟨q0, u, v3, ta, tb, rfl, hq0, du, dv3, wa, wb, fun k H1 s1 nk hk => ?_⟩
    refine ⟨_, rfl, f, _, 0, .ref t, rfl, rfl, SqT.of (s1 _ _ hf), atI_nat (j := 0) rfl, t, rfl, ⟨_, SqT.of (s1 _ _ ht)⟩, fun D nD => ?_⟩
    have ly := hus.length
    have Cl : ∀ z, z ∈ L → Cpl z := fun z hz => C.c z (List.mem_append_left _ hz)
    refine lc_tup (K := K) (a := t) (xs := us) (fun i G => Same H1 G ∧ ∃ ks, G D = some (.lst ks) ∧ DxAll K G ks ((L.take i).map keyC)) ⟨same_put nD, [], upd_same, .nil⟩ (fun i G _ h => SqT.of (h.1 _ _ (s1 _ _ ht))) ?_ ?_
    · rintro i x G2 hi ⟨sG, ks, eD, dk⟩
      have lti : i < L.length := by rw [← ly]; exact (List.getElem?_eq_some_iff.mp hi).1
      have gd := List.getElem?_eq_getElem lti
      obtain ⟨v2, hv2, dv⟩ := hus.get gd
      rw [hi] at hv2
      cases hv2
      obtain ⟨a, b, eab, wa2, wb2⟩ := Cl _ (List.getElem_mem lti)
      rw [eab] at dv gd
      obtain ⟨q1, u1, v1, rfl, hq1, du1, dv1⟩ := dx_couple dv
      have s2 := s1.trans sG
      refine ⟨rfl, (iteT (B := False) ?_ : if true = true then _ else False)⟩
      refine ⟨_, rfl, q1, u1, v1, a, b, rfl, s2 _ _ hq1, du1.up s2, dv1.up s2, wa2, wb2, fun k2 G3 s3 nk2 hk2 => ⟨ks, s3 _ _ eD, ?_, fun z oz hz => ?_, ks ++ [.ref k2], upd_same, ?_⟩⟩
      · rw [dk.length, List.length_map, List.length_take]
        exact small1000 (by omega)
      · rw [upd_ne (ne_of_none hz nD)]
        exact s3 _ _ (sG _ _ hz)
      · have tl := Tups.lst (ys := ks ++ [.ref k2]) (s3 _ _ eD)
        have e1 : (L.take (i + 1)).map keyC = (L.take i).map keyC ++ [.tuple [.str (tS (tx a)), .str (tS (tx b))]] := by
          rw [List.take_add_one, gd, List.map_append]
          rfl
        rw [e1]
        refine DxAll.ts tl _ _ ?_ (DxAll.append (dk.up s3) (.cons (.tup hk2 (.cons (.str _) (.cons (.str _) .nil))) .nil))
        have e2 : (L.take i).map keyC ++ [PyData.tuple [.str (tS (tx a)), .str (tS (tx b))]] = ((L.take i) ++ [PyData.tuple [a, b]]).map keyC := by rw [List.map_append]; rfl
        rw [e2]
        refine pure_keys fun d hd => ?_
        rcases List.mem_append.mp hd with hd | hd
        · exact Cl d (List.mem_of_mem_take hd)
        · exact ⟨a, b, List.mem_singleton.mp hd, wa2, wb2⟩
    · rintro G2 ⟨sG, ks, eD, dk⟩
      rw [ly, List.take_length] at dk
      have hk2 := sG _ _ hk
      have C1 := cpl_key (z := .tuple [ta, tb]) ⟨ta, tb, rfl, wa, wb⟩
      have CL : PyData.canLayAll0 (L.map keyC) = true ∧ PyData.depthAll (L.map keyC) ≤ 63 ∧ PyData.hasDictAll (L.map keyC) = false := by
        clear dk few hus ly C hx q
        induction L with
        | nil => exact ⟨rfl, by simp [PyData.depthAll], rfl⟩
        | cons z L ih =>
          obtain ⟨i1, i2, i3⟩ := ih fun y hy => Cl y (List.mem_cons_of_mem _ hy)
          obtain ⟨a, b, rfl, wa2, wb2⟩ := Cl z List.mem_cons_self
          have z1 := cpl_key (z := .tuple [a, b]) ⟨a, b, rfl, wa2, wb2⟩
          refine ⟨by rw [List.map_cons, PyData.canLayAll0, z1.1, i1]; rfl, ?_, by rw [List.map_cons, PyData.hasDictAll, z1.2.2.2, i3]; rfl⟩
          rw [List.map_cons, PyData.depthAll]
          have : (keyC (.tuple [a, b])).depth ≤ 1 := by simp [keyC, PyData.depth, PyData.depthAll]
          omega
      refine ⟨keyC (.tuple [ta, tb]), L.map keyC, Dx.dp C1.2.2.2 (.tup hk2 (.cons (.str _) (.cons (.str _) .nil))), Dx.dp (by simpa [PyData.hasDict] using CL.2.2) (.lst eD dk), ?_, ?_, q _ _ (s1.trans sG) ?_⟩
      · simp [SeqAt.shaped, C1.1, C1.2.1]
      · have hd : (PyData.list (L.map keyC)).depth ≤ 64 := by
          have := CL.2.1
          rw [PyData.depth]
          omega
        simp [SeqAt.shaped, PyData.canLay0, CL.1, hd]
      · rw [List.any_map, List.any_eq_true]
        constructor
        · rintro ⟨z, hz, e⟩
          have := (key_eqv C (List.mem_append_left _ hz) (List.mem_append_right _ (List.mem_singleton_self _))).mp e
          exact ⟨ee, this ▸ hz⟩
        · rintro ⟨_, hz⟩
          exact ⟨_, hz, (key_eqv C (List.mem_append_left _ hz) (List.mem_append_right _ (List.mem_singleton_self _))).mpr rfl⟩
end
end K12
/-! The law's own texts. -/
namespace K12
open PySem PySem.Spec PyProof.Rows L2 Kx
theorem tx_part {ds : List PyData} {i : Nat} {d : PyData} : ds[i]? = some d → (tx d).length ≤ (txM ds).length := by
  induction ds generalizing i with
  | nil => intro h; simp at h
  | cons e ds ih =>
    intro h
    rw [txM, List.length_cons, List.length_append]
    cases i with
    | zero =>
      simp at h
      rw [h]
      omega
    | succ i =>
      have := ih (i := i) (by simpa using h)
      omega
theorem txA_len (ds : List PyData) : (txM ds).length ≤ (txA ds).length := by
  cases ds with
  | nil => exact Nat.le_refl _
  | cons e ds =>
    simp only [txM, txA, List.length_cons, List.length_append]
    omega
theorem txM_sum : ∀ l : List PyData, ((l.map fun e => tS (tx e)).map (·.length)).sum + l.length = (txM l).length
  | [] => rfl
  | e :: l => by
    have := txM_sum l
    rw [List.map_cons, List.map_cons, List.sum_cons, tS_len, List.length_cons, txM, List.length_cons, List.length_append]
    omega
section
variable {P : Program} {w : World} {K : PySem.W.Frag} {mg : Str → Option Value} {base : Heap}
def spTxt (K : PySem.W.Frag) (n : Nat) : Sp := fun vs H Q _ => ∃ (x : V) (d : PyData), vs = [x] ∧ Dx K H x d ∧ formedD d = true ∧ d.depth ≤ n ∧ (tx d).length ≤ 1000000 ∧ ∀ H', Same H H' → Q (.str (tS (tx d))) H'
theorem ok_txt (T : Tx K mg) : ∀ n, FnOk P w K mg base CX0 (n + 1) T.a_law_text T.d_law_text ["term"] (spTxt K n)
  | 0 => by
    refine T.f_law_text.ok sc__law_text (fun vs H Q E h => ?_) (fun cdv A outer s H vs Q E hr h => ?_)
    · obtain ⟨x, d, rfl, _⟩ := h
      rfl
    · exfalso
      obtain ⟨x, d, rfl, hx, hf, hd, _⟩ := h
      obtain ⟨z, ds, rfl, _⟩ := formed_shape hf
      simp [PyData.depth] at hd
  | n + 1 => by
    have nd := sc__law_text.nd
    have G := ok_txt T n
    refine T.f_law_text.ok sc__law_text (fun vs H Q E h => ?_) (fun cdv A outer s H vs Q E hr h => ?_)
    · obtain ⟨x, d, rfl, _⟩ := h
      rfl
    · obtain ⟨x, d, rfl, hx, hf, hd, hl, q⟩ := h
      refine ⟨_, (pss_cons (ps_if (pt_cmpR op_eq (pe_callB call_len_seq (by rfl) T.b_len (by decide +kernel) (pa_cons (pv 0) pa_nil)) pe_int (nomark _)) (pss_one (ps_ret (pe_ix ix_tup (pv 0) pe_int (fun _ _ => rfl)))) pss_nil)
      (pss_one (ps_ret (pe_op op_add_str (pe_op op_add_str (pe_op op_add_str (pe_ix ix_tup (pv 0) pe_int (fun _ _ => rfl)) pe_str) (pe_bm PySem.F.plainAttrs_str PySem.F.slot_str_join PySem.F.type_str_join mt_join pe_str (pa_cons (pe_lc (own := [("part", 1)]) (g := (gName 1)) (tt := tYes) (by rfl) nd (pi_tup (pe_slice sl_tupA (pv 0) (po_some pe_int) po_none)) (blkOk_by (own := [("part", 1)]) (N := N__law_text) (sc := defScope s__law_text) (by decide +kernel)) (fun _ _ _ _ _ => pg_name (i := 1) nd rfl (.inl rfl)) (fun _ _ _ _ _ => pts_nil) (fun _ _ _ _ _ => (pe_call G (hr.mono (by omega)) (by rfl) T.g_law_text T.f_law_text.kp T.n_law_text .nil pass0 (pa_cons (pv 1) pa_nil)))) pa_nil))) pe_str)))), ?_⟩
      obtain ⟨nm, ds, rfl, l3, hnm, hfa⟩ := formed_shape hf
      cases hx with
      | @tup b xs _ hb hs =>
      cases hs with
      | @cons v0 vs0 _ _ h0 hws =>
      cases h0
      have lw := hws.length
      have hn8 : nm.length ≤ 8 := by
        simp only [isNm, Bool.and_eq_true, decide_eq_true_eq] at hnm
        exact hnm.1.2
      refine ⟨_, rfl, b, _, rfl, .inr (SqT.of hb), rfl, _, rfl, ite2 (fun e1 => ?_) (fun e1 => ?_)⟩
      · have n0 : ds = [] := by
          have z := V.int.inj (of_decide_eq_true e1)
          refine List.eq_nil_of_length_eq_zero ?_
          rw [List.length_cons] at z
          omega
        subst n0
        have := q H (Same.refl H)
        rw [show tS (tx (.tuple [.str nm])) = nm by simp [tx, nmC, txA, tS_list]] at this
        exact ⟨_, rfl, b, _, 0, .str nm, rfl, rfl, SqT.of hb, atI_nat (j := 0) rfl, this⟩
      · cases hws with
        | nil => exact absurd rfl e1
        | @cons v1 vr d1 rest hv1 hrest =>
        have hw2 : DxAll K H (v1 :: vr) (d1 :: rest) := .cons hv1 hrest
        have dd : PyData.depthAll (d1 :: rest) ≤ n := by
          simp only [PyData.depth, PyData.depthAll] at hd ⊢
          omega
        have lenA : (txM (d1 :: rest)).length ≤ 1000000 := by
          have := txA_len (d1 :: rest)
          have e : tx (.tuple (.str nm :: d1 :: rest)) = nm.cps.toList ++ txA (d1 :: rest) := by simp [tx, nmC]
          rw [e, List.length_append] at hl
          omega
        refine ⟨_, rfl, b, _, 0, .str nm, rfl, rfl, SqT.of hb, atI_nat (j := 0) rfl, nm, "(", rfl, rfl, Nat.le_of_lt (small1000 (by show nm.length + 1 ≤ 1000; omega)), ?_⟩
        refine ⟨rfl, _, rfl, 1, rfl, ?_⟩
        dsimp only [tNoPart]
        refine sl_from (S := []) (i := 1) ((Dx.tup hb (.cons (.str nm) hw2)).up offs_nil) olds_nil fun y H1 s1 dy => ?_
        have dy := dy.up OffS.all
        rw [List.drop_one, List.tail_cons] at dy
        cases dy with
        | @tup c us _ hc hus =>
        refine ⟨c, rfl, ⟨_, SqT.of hc⟩, fun D nD => ?_⟩
        have lus := hus.length
        have l3' : us.length ≤ 3 := by omega
        refine lc_tup (K := K) (a := c) (xs := us) (fun i H2 => Same H1 H2 ∧ H2 D = some (.lst (((d1 :: rest).take i).map fun e => V.str (tS (tx e))))) ⟨same_put nD, upd_same⟩ (fun i H2 _ h => SqT.of (h.1 _ _ hc)) ?_ ?_
        · rintro i y H2 hi ⟨s2, e2⟩
          have lt : i < (d1 :: rest).length := by
            rw [← lus]
            exact (List.getElem?_eq_some_iff.mp hi).1
          have gd := List.getElem?_eq_getElem lt
          obtain ⟨v2, hv2, dv2⟩ := hus.get gd
          rw [hi] at hv2
          cases hv2
          have tl := tx_part gd
          refine ⟨rfl, (iteT (B := False) ?_ : if true = true then _ else False)⟩
          refine ⟨_, rfl, y, _, rfl, dv2.up s2, formedAll_get hfa gd, Nat.le_trans (depthAll_get gd) dd, by omega, fun H3 s3 => ⟨_, s3 _ _ e2, ?_, fun o ob ho => ?_, ?_⟩⟩
          · rw [List.length_map, List.length_take]
            exact small1000 (by omega)
          · rw [upd_ne (ne_of_none ho nD)]
            exact s3 _ _ (s2 _ _ ho)
          · rw [upd_same, List.take_add_one, gd, List.map_append]
            rfl
        · rintro H2 ⟨s2, e2⟩
          rw [lus, List.take_length] at e2
          have ej : Txt.join "," ((d1 :: rest).map fun e => tS (tx e)) = tS (tx d1 ++ txM rest) := by
            rw [List.map_cons, join_comma]
            have : ∀ l : List PyData, (l.map fun e => tS (tx e)).flatMap (fun p => 44 :: p.cps.toList) = txM l := by
              intro l
              induction l with
              | nil => rfl
              | cons a l ih =>
                rw [List.map_cons, List.flatMap_cons, ih, txM]
                show 44 :: (tS (tx a)).cps.toList ++ _ = _
                rw [show (tS (tx a)).cps.toList = tx a from List.toList_toArray ..]
                rfl
            rw [this, show (tS (tx d1)).cps.toList = tx d1 from List.toList_toArray ..]
          have fin := q H2 (s1.trans s2)
          have et : tS (tx (.tuple (.str nm :: d1 :: rest))) = nm ++ "(" ++ tS (tx d1 ++ txM rest) ++ ")" := by
            rw [← tS_list (nm ++ "(" ++ tS (tx d1 ++ txM rest) ++ ")"), str_app, str_app, str_app, show (tS (tx d1 ++ txM rest)).cps.toList = tx d1 ++ txM rest from List.toList_toArray ..]
            congr 1
            show nm.cps.toList ++ 40 :: (tx d1 ++ (txM rest ++ [41])) = nm.cps.toList ++ [40] ++ (tx d1 ++ txM rest) ++ [41]
            simp
          rw [et] at fin
          have sm := txM_sum (d1 :: rest)
          have eM : (tx d1 ++ txM rest).length + 1 = (txM (d1 :: rest)).length := by
            rw [txM, List.length_cons]
          have lj : (nm ++ "(").length = nm.length + 1 := by
            show (nm ++ "(").cps.size = _
            rw [← Array.length_toList, str_app, List.length_append, Array.length_toList]
            rfl
          refine ⟨",", D, (d1 :: rest).map fun e => tS (tx e), rfl, rfl, .inl (.inl (.inl (by rw [e2, List.map_map]; rfl))), ?_, ?_⟩
          · rw [List.length_map]
            show _ + (d1 :: rest).length * 1 ≤ _
            rw [Nat.mul_one]
            omega
          rw [ej]
          have lt : (tS (tx d1 ++ txM rest)).length = (tx d1 ++ txM rest).length := tS_len _
          have l2 : (nm ++ "(" ++ tS (tx d1 ++ txM rest)).length = nm.length + 1 + (tx d1 ++ txM rest).length := by
            show (nm ++ "(" ++ tS (tx d1 ++ txM rest)).cps.size = _
            rw [← Array.length_toList, str_app, List.length_append, Array.length_toList, ← lj, ← lt, Array.length_toList]
            rfl
          refine ⟨_, _, rfl, rfl, ?_, _, _, rfl, rfl, ?_, fin⟩
          · rw [lj, lt]
            exact Nat.le_trans (show nm.length + 1 + (tx d1 ++ txM rest).length ≤ 1000020 by omega) (by decide)
          · rw [l2]
            exact Nat.le_trans (show nm.length + 1 + (tx d1 ++ txM rest).length + 1 ≤ 1000020 by omega) (by decide)
end
end K12
/-! Pairs of the law. -/
namespace K12
open PySem PySem.Spec PyProof.Rows L2 Kx
/-- a term with names of rs, of n levels at most -/
theorem Tm.le {rs : List NK} {n m : Nat} {d : PyData} (h : Tm rs n d) (l : n ≤ m) : Tm rs m d := ⟨h.fm, h.rw, Nat.le_trans h.dp l⟩
/-- the parts of a term, few -/
def big : Nat → Nat
  | 0 => 1
  | n + 1 => 2 + 3 * big n
mutual
theorem sz_formed : ∀ (d : PyData) (n : Nat), formedD d = true → d.depth ≤ n → szD d ≤ big n
  | .tuple (a :: ds), 0, _, dp => by simp [PyData.depth] at dp
  | .tuple (a :: ds), n + 1, h, dp => by
    obtain ⟨x, ds', e, l3, _, hf⟩ := formed_shape h
    injection e with e
    injection e with e1 e2
    subst e1 e2
    have dd : PyData.depthAll ds ≤ n := by
      simp only [PyData.depth, PyData.depthAll] at dp
      omega
    have := sz_formedAll ds n hf dd
    have b0 : ds.length * big n ≤ 3 * big n := Nat.mul_le_mul_right _ l3
    simp only [szD, szAll, big]
    omega
  | .tuple [], _, h, _ => by cases h
  | .none, _, h, _ => by cases h
  | .bool _, _, h, _ => by cases h
  | .int _, _, h, _ => by cases h
  | .str _, _, h, _ => by cases h
  | .list _, _, h, _ => by cases h
  | .dict _, _, h, _ => by cases h
theorem sz_formedAll : ∀ (ds : List PyData) (n : Nat), formedAll ds = true → PyData.depthAll ds ≤ n → szAll ds ≤ ds.length * big n
  | [], _, _, _ => by simp [szAll]
  | d :: ds, n, h, dp => by
    rw [formedAll, Bool.and_eq_true] at h
    rw [PyData.depthAll] at dp
    have h1 := sz_formed d n h.1 (by omega)
    have h2 := sz_formedAll ds n h.2 (by omega)
    rw [szAll, List.length_cons, Nat.add_mul, Nat.one_mul]
    omega
end
theorem big3 : big 3 = 53 := rfl
theorem tx_few {d : PyData} {n : Nat} (h : formedD d = true) (dp : d.depth ≤ n) (ln : n ≤ 6) : (tx d).length ≤ 1000000 := by
  have z := sz_formed d n h dp
  have m : big n ≤ big 6 := by
    have : ∀ i j, i ≤ j → big i ≤ big j := fun i j hij => by
      induction hij with
      | refl => exact Nat.le_refl _
      | step _ ih => exact Nat.le_trans ih (by rw [big]; omega)
    exact this _ _ ln
  have b6 : big 6 = 1457 := rfl
  exact (wr_of h (by omega)).t
section
variable {P : Program} {w : World} {K : PySem.W.Frag} {mg : Str → Option Value} {base : Heap}
/-- (one, other), the less first -/
def ordP (a b : PyData) : PyData := if ltR a b then .tuple [a, b] else .tuple [b, a]
def spLp (K : PySem.W.Frag) : Sp := fun vs H Q _ => ∃ (x y : V) (d e : PyData), vs = [x, y] ∧ Dx K H x d ∧ Dx K H y e ∧ formedD d = true ∧ formedD e = true ∧ d.depth ≤ 60 ∧
  ∀ z H', Same H H' → Dx K H' z (ordP d e) → Q z H'
theorem ok_lp (T : Tx K mg) : FnOk P w K mg base CX0 1 T.a_law_pair T.d_law_pair ["one", "other"] (spLp K) := by
  have nd := sc__law_pair.nd
  refine T.f_law_pair.ok sc__law_pair (fun vs H Q E h => ?_) (fun cdv A outer s H vs Q E hr h => ?_)
  · obtain ⟨x, y, d, e, rfl, _⟩ := h
    rfl
  obtain ⟨x, y, d, e, rfl, hx, hy, fd, fe, dp, q⟩ := h
  refine ⟨_, (pss_one (ps_ret (pe_ifExp (pt_cmpR (op_ltD hr.units) (pv 0) (pv 1) (nomark _)) (pe_tup (pa_cons (pv 0) (pa_cons (pv 1) pa_nil))) (pe_tup (pa_cons (pv 1) (pa_cons (pv 0) pa_nil)))))), ?_⟩
  refine ⟨_, rfl, _, rfl, d, e, hx, hy, alike_formed d e fd fe, (fun z => by rw [z] at fd; cases fd), dp, _, rfl, ite2 (fun h => ?_) (fun h => ?_)⟩
  · refine ⟨_, rfl, _, rfl, by show 2 ≤ sizeLine; decide, fun p np => q _ _ (same_put np) ?_⟩
    rw [ordP, if_pos (show ltR d e from h)]
    exact .tup upd_same (.cons (hx.up (same_put np)) (.cons (hy.up (same_put np)) .nil))
  · refine ⟨_, rfl, _, rfl, by show 2 ≤ sizeLine; decide, fun p np => q _ _ (same_put np) ?_⟩
    rw [ordP, if_neg (show ¬ ltR d e from h)]
    exact .tup upd_same (.cons (hy.up (same_put np)) (.cons (hx.up (same_put np)) .nil))
/-- a pair over rs, the less first -/
structure Pr (rs : List NK) (n : Nat) (z : PyData) : Prop where
  ex : ∃ a b, z = .tuple [a, b] ∧ Tm rs n a ∧ Tm rs n b ∧ ltR a b
theorem pr_ord {rs : List NK} {n : Nat} {a b : PyData} (ha : Tm rs n a) (hb : Tm rs n b) (ne : a ≠ b) : Pr rs n (ordP a b) := by
  unfold ordP
  by_cases h : ltR a b
  · rw [if_pos h]
    exact ⟨a, b, rfl, ha, hb, h⟩
  · rw [if_neg h]
    refine ⟨b, a, rfl, hb, ha, ?_⟩
    rcases ltR_tri ha.fm hb.fm with z | z | z
    · exact absurd z h
    · exact absurd z ne
    · exact z
end
mutual
theorem lay_formed : ∀ (d : PyData), formedD d = true → d.canLay0 = true ∧ d.hasDict = false
  | .tuple (a :: ds), h => by
    obtain ⟨x, ds', e, _, hx, hf⟩ := formed_shape h
    injection e with e
    injection e with e1 e2
    subst e1 e2
    obtain ⟨i1, i2⟩ := lay_formedAll ds hf
    have so : PyData.strOk x = true := Array.all_eq_true'.mpr fun c hc => by
      have := letters_le hx c (Array.mem_toList_iff.mpr hc)
      exact decide_eq_true (by omega)
    exact ⟨by simp [PyData.canLay0, PyData.canLayAll0, so, i1], by simp [PyData.hasDict, PyData.hasDictAll, i2]⟩
  | .tuple [], h => by cases h
  | .none, h => by cases h
  | .bool _, h => by cases h
  | .int _, h => by cases h
  | .str _, h => by cases h
  | .list _, h => by cases h
  | .dict _, h => by cases h
theorem lay_formedAll : ∀ (ds : List PyData), formedAll ds = true → PyData.canLayAll0 ds = true ∧ PyData.hasDictAll ds = false
  | [], _ => ⟨rfl, rfl⟩
  | d :: ds, h => by
    rw [formedAll, Bool.and_eq_true] at h
    obtain ⟨a, b⟩ := lay_formed d h.1
    obtain ⟨c, e⟩ := lay_formedAll ds h.2
    exact ⟨by rw [PyData.canLayAll0, a, c]; rfl, by rw [PyData.hasDictAll, b, e]; rfl⟩
end
section
variable {P : Program} {w : World} {K : PySem.W.Frag} {mg : Str → Option Value} {base : Heap}
def spDp (K : PySem.W.Frag) (n : Nat) : Sp := fun vs H Q _ => ∃ (a b : Addr) (m : Nat) (zs : List Rw), vs = [.ref a, .ref b, .int (n : Int)] ∧ 0 < n ∧ n ≤ 3 ∧ Dice H a m ∧ m + 320 < cap ∧ RowsIn H b zs ∧ b ≠ a ∧ Good (zs.map Prod.snd) ∧
  ∀ (x : V) (d : PyData) H', But a H H' → Dice H' a (m + 320) → Dx K H' x d → Pr (zs.map Prod.snd) n d → Q x H'
theorem cost_le {n : Nat} (h : n ≤ 3) : cost n ≤ 26 := by
  match n, h with
  | 0, _ => decide
  | 1, _ => decide
  | 2, _ => decide
  | 3, _ => decide
theorem cell_tm {rs : List NK} {n : Nat} {x : Str} (n0 : 0 < n) (h : (x, 0) ∈ rs) (nm : isNm x = true) : Tm rs n (.tuple [.str x]) := by
  refine ⟨by simp [formedD, nameD, nm, formedAll], fun r hr => ?_, by simp [PyData.depth, PyData.depthAll]; omega⟩
  simp only [rowsD, headD, rowsAll, List.length_nil, List.mem_singleton] at hr
  rw [hr]
  exact h
theorem ok_dp (T : Tx K mg) (n : Nat) : FnOk P w K mg base CX0 (n + 4) T.a_law_drawn_pair T.d_law_drawn_pair ["dice", "names", "deep"] (spDp K n) := by
  have nd := sc__law_drawn_pair.nd
  have GT := ok_lt (P := P) (w := w) (base := base) T n
  have GP := ok_lp (P := P) (w := w) (base := base) T
  refine T.f_law_drawn_pair.ok sc__law_drawn_pair (fun vs H Q E h => ?_) (fun cdv A outer s H vs Q E hr h => ?_)
  · obtain ⟨a, b, m, zs, rfl, _⟩ := h
    rfl
  obtain ⟨a, b, m, zs, rfl, n0, n3, hd, hm, ri, nba, gd, q⟩ := h
  have c26 := cost_le n3
  refine ⟨_, (pss_cons (ps_for PassesOwn.never rfl (pi_range1 (by rfl) T.b_range (pa_cons pe_int pa_nil)) (pg_name (i := 3) nd rfl (.inl rfl)) (pss_cons (ps_par (i := 4) (j := 5) (by rfl) nd rfl rfl (by decide) rfl rfl (pa_cons (pe_call GT (hr.mono (by omega)) (by rfl) T.g_law_term T.f_law_term.kp T.n_law_term .nil pass0 (pa_cons (pv 0) (pa_cons (pv 1) (pa_cons (pv 2) pa_nil)))) (pa_cons (pe_call GT (hr.mono (by omega)) (by rfl) T.g_law_term T.f_law_term.kp T.n_law_term .nil pass0 (pa_cons (pv 0) (pa_cons (pv 1) (pa_cons (pv 2) pa_nil)))) pa_nil)) (by rfl))
      (pss_one (ps_if (pt_cmpR (op_neF (room200 hr)) (pv 4) (pv 5) (nomark _)) (pss_one (ps_ret (pe_call GP (hr.mono (by omega)) (by rfl) T.g_law_pair T.f_law_pair.kp T.n_law_pair .nil pass0 (pa_cons (pv 4) (pa_cons (pv 5) pa_nil))))) pss_nil))))
      (pss_cons (ps_set (i := 6) nd rfl (.inl rfl) (pe_callB (cr_sortedD hr.units) (by rfl) T.b_sorted (by decide +kernel) (pa_cons (pe_lc (own := [("name", 7), ("places", 8)]) (g := (gTup K 2 (gCons (gName 7) (gCons (gName 8) gNil)))) (by rfl) nd (pi_list (pv 1)) (blkOk_by (own := [("name", 7), ("places", 8)]) (N := N__law_drawn_pair) (sc := defScope s__law_drawn_pair) (by decide +kernel)) (fun _ _ _ _ _ => pg_tup rfl (pgs_cons (pg_name (i := 7) nd rfl (.inl rfl)) (pgs_cons (pg_name (i := 8) nd rfl (.inl rfl)) pgs_nil))) (fun _ _ _ _ _ => (pts_one (pt_cmpR op_eq (pv 8) pe_int (nomark _)))) (fun _ _ _ _ _ => (pv 7))) pa_nil)))
      (pss_one (ps_ret (pe_tup (pa_cons (pe_tup (pa_cons (pe_ix ix_list (pv 6) pe_int (fun _ _ => rfl)) pa_nil)) (pa_cons (pe_tup (pa_cons (pe_ix ix_list (pv 6) pe_int (fun _ _ => rfl)) pa_nil)) pa_nil))))))), ?_⟩
  refine ⟨6, rfl, by decide, by decide, for_range (fun k σ G => But a H G ∧ Dice G a (m + 52 * k) ∧ RowsIn G b zs ∧ ∃ y3 y4 y5, σ = [some (.ref a), some (.ref b), some (.int (n : Int)), y3, y4, y5, none, none, none]) ⟨But.refl a H, hd, ri, none, none, none, rfl⟩ ?_ ?_⟩
  · rintro k σ G hk ⟨bG, dG, rG, y3, y4, y5, rfl⟩
    have hk : k < 6 := hk
    refine ⟨_, rfl, _, rfl, _, rfl, a, b, m + 52 * k, zs, rfl, n0, dG, by omega, rG, nba, gd, fun x1 d1 G1 b1 dd1 dx1 t1 => ?_⟩
    have rG1 := rG.but b1 dG nba
    refine ⟨_, rfl, _, rfl, _, rfl, a, b, m + 52 * k + cost n, zs, rfl, n0, dd1, by omega, rG1, nba, gd, fun x2 d2 G2 b2 dd2 dx2 t2 => ?_⟩
    have bG2 := bG.trans (b1.trans b2)
    have dx1 := Dx.ts (Tups.but b2 dd1) _ _ (pure_formed _ t1.fm) dx1
    obtain ⟨la1, hd1⟩ := lay_formed d1 t1.fm
    obtain ⟨la2, hd2⟩ := lay_formed d2 t2.fm
    have dd2 : Dice G2 a (m + 52 * (k + 1)) := dd2.le (by omega)
    refine ⟨_, _, rfl, ?_⟩
    refine ⟨_, rfl, _, rfl, d1, d2, dx1.dp hd1, dx2.dp hd2, la1, la2, by have := t1.dp; omega, _, rfl, ?_⟩
    cases he : PyData.eqv d1 d2 with
    | true => exact iteF ⟨bG2, dd2, rG1.but b2 dd1 nba, _, _, _, rfl⟩
    | false =>
      have ne : d1 ≠ d2 := fun z => by
        rw [(eqv_formed d1 d2 t1.fm t2.fm).mpr z] at he
        cases he
      exact iteT ⟨_, rfl, _, rfl, x1, x2, d1, d2, rfl, dx1, dx2, t1.fm, t2.fm, by have := t1.dp; omega, fun z H' s dz => q z _ H' (bG2.trans (But.of s)) ((dd2.up s).le (by omega)) dz (pr_ord t1 t2 ne)⟩
  · rintro σ G ⟨bG, dG, rG, y3, y4, y5, rfl⟩
    have dG : Dice G a (m + 312) := dG
    have lzs : zs.length ≤ 20 := by
      have := gd.few
      rwa [List.length_map] at this
    refine ⟨_, rfl, b, rfl, ⟨_, SqL.of rG.1⟩, fun D nD => ?_⟩
    have cells : ∀ i, i ≤ zs.length → ((zs.take i).filter fun z => decide (z.2.2 = 0)).length ≤ 20 := fun i hi => by
      have := List.length_filter_le (fun z : Rw => decide (z.2.2 = 0)) (zs.take i)
      rw [List.length_take] at this
      omega
    refine lc_list (K := K) (a := b) (xs := zs.map fun z => V.ref z.1) (fun i G1 => Same G G1 ∧ G1 D = some (.lst (((zs.take i).filter fun z => decide (z.2.2 = 0)).map fun z => V.str z.2.1))) ⟨same_put nD, upd_same⟩ (fun i G1 _ h => SqL.of (h.1 _ _ rG.1)) ?_ ?_
    · rintro i y G1 hi ⟨sG, eD⟩
      rw [List.getElem?_map] at hi
      obtain ⟨z, hz, rfl⟩ := Option.map_eq_some_iff.mp hi
      have lt : i < zs.length := (List.getElem?_eq_some_iff.mp hz).1
      have ez := sG _ _ (rG.2 z (List.mem_of_getElem? hz))
      have et : (zs.take (i + 1)).filter (fun z => decide (z.2.2 = 0)) = (zs.take i).filter (fun z => decide (z.2.2 = 0)) ++ [z].filter (fun z => decide (z.2.2 = 0)) := by
        rw [List.take_add_one, hz, List.filter_append]
        rfl
      refine ⟨z.1, _, rfl, SqT.of ez, rfl, _, _, rfl, _, _, rfl, rfl, rfl, _, rfl, rfl, _, rfl, ite2 (fun e0 => ?_) (fun e0 => ?_)⟩
      · have z0 : z.2.2 = 0 := by
          have := of_decide_eq_true (p := V.int (z.2.2 : Int) = V.int 0) e0
          injection this with this
          exact Int.ofNat.inj this
        refine ⟨_, rfl, _, eD, ?_, fun c o hc => ?_, ?_⟩
        · rw [List.length_map]
          exact small1000 (by have := cells i (by omega); omega)
        · rw [upd_ne (ne_of_none hc nD)]
          exact sG _ _ hc
        · rw [upd_same, et, List.map_append]
          simp [z0]
      · have z0 : z.2.2 ≠ 0 := fun h => by
          rw [h] at e0
          exact absurd (decide_eq_true rfl) e0
        refine ⟨sG, ?_⟩
        rw [et]
        simp [z0, eD]
    rintro G1 ⟨sG, eD⟩
    rw [List.length_map, List.take_length] at eD
    obtain ⟨cs, ecs⟩ : ∃ cs, cs = (zs.filter fun z => decide (z.2.2 = 0)).map fun z => z.2.1 := ⟨_, rfl⟩
    have lcs : cs.length ≤ 20 := by
      have := cells zs.length (Nat.le_refl _)
      rw [List.take_length] at this
      rw [ecs, List.length_map]
      exact this
    have mcs : ∀ x, x ∈ cs ↔ (x, 0) ∈ zs.map Prod.snd := fun x => by
      rw [ecs]
      simp only [List.mem_map, List.mem_filter, decide_eq_true_eq]
      constructor
      · rintro ⟨z, ⟨hz, h0⟩, rfl⟩
        exact ⟨z, hz, by rw [← h0]⟩
      · rintro ⟨z, hz, e⟩
        exact ⟨z, ⟨hz, by rw [e]⟩, by rw [e]⟩
    have ndc : cs.Nodup := by
      have n1 := gd.nd
      rw [List.map_map] at n1
      rw [ecs]
      exact List.Nodup.sublist ((List.filter_sublist (l := zs)).map _) n1
    have eD2 : G1 D = some (.lst (cs.map V.str)) := by
      rw [eD, ecs, List.map_map]
      rfl
    have fst : ∀ l : List Str, (l.map fun x => ((V.str x, PyData.str x) : Item)).map Prod.fst = l.map V.str := fun l => by rw [List.map_map]; rfl
    have snd : ∀ l : List Str, (l.map fun x => ((V.str x, PyData.str x) : Item)).map Prod.snd = l.map PyData.str := fun l => by rw [List.map_map]; rfl
    refine ⟨D, cs.map fun x => (V.str x, PyData.str x), rfl, by rw [fst]; exact SqL.of eD2, fun p hp => ?_, ?_, ?_, by rw [List.length_map]; exact Nat.le_of_lt (small1000 (by omega)), fun p hp => ?_, fun p np => ?_⟩
    · obtain ⟨x, _, rfl⟩ := List.mem_map.mp hp
      exact .str x
    · rw [snd]
      exact PySem.W.AllAlike.of fun b b' => rfl
    · rw [snd]
      exact PySem.W.Sortable.others fun b => ⟨fun z => (nomatch z), fun xs z => (nomatch z)⟩
    · obtain ⟨x, _, rfl⟩ := List.mem_map.mp hp
      simp [PyData.depth]
    · have srt := sort_strict (k := Prod.snd) (l := cs.map fun x => ((V.str x, PyData.str x) : Item)) (by
        rw [List.map_map, List.Nodup, List.pairwise_map]
        refine ndc.imp fun {x y} ne e => ne ?_
        simp only [Function.comp, PySem.W.keyToks, List.cons.injEq, Sum.inr.injEq, and_true] at e
        exact PySem.W.str_of_cps e)
      obtain ⟨ws, pw, ew⟩ := perm_back (List.mergeSort_perm (cs.map fun x => ((V.str x, PyData.str x) : Item)) (PySem.W.dataLe false Prod.snd)).symm cs rfl
      rw [ew] at srt ⊢
      rw [fst]
      rw [List.pairwise_map] at srt
      obtain ⟨x0, y0, nxy, m1, m2⟩ := gd.two
      have m1 := pw.mem_iff.mpr ((mcs x0).mpr m1)
      have m2 := pw.mem_iff.mpr ((mcs y0).mpr m2)
      match ws, pw, srt, m1, m2 with
      | [], _, _, m1, _ => cases m1
      | [x], _, _, m1, m2 =>
        rw [List.mem_singleton.mp m1, List.mem_singleton.mp m2] at nxy
        exact absurd rfl nxy
      | x :: y :: ws, pw, srt, _, _ =>
        rw [List.pairwise_cons] at srt
        have lxy : ltR (.str x) (.str y) := srt.1 y List.mem_cons_self
        have mx := (mcs x).mp (pw.mem_iff.mp List.mem_cons_self)
        have my := (mcs y).mp (pw.mem_iff.mp (List.mem_cons_of_mem _ List.mem_cons_self))
        have s1 := same_put (o := .lst ((x :: y :: ws).map V.str)) np
        have ep : (upd G1 p (.lst ((x :: y :: ws).map V.str))) p = some (.lst (.str x :: .str y :: ws.map V.str)) := upd_same
        have sG2 := sG.trans s1
        generalize upd G1 p (.lst ((x :: y :: ws).map V.str)) = G2 at ep sG2 ⊢
        refine ⟨_, rfl, p, _, 0, .str x, rfl, rfl, SqL.of ep, atI_nat (j := 0) rfl, by show 1 ≤ sizeLine; decide, fun t1 nt1 => ?_⟩
        have s3 := same_put (o := .tup [.str x]) nt1
        refine ⟨_, rfl, p, _, 1, .str y, rfl, rfl, SqL.of (s3 _ _ ep), atI_nat (j := 1) rfl, by show 1 ≤ sizeLine; decide, fun t2 nt2 => ?_⟩
        have s4 := same_put (o := .tup [.str y]) nt2
        refine ⟨by show 2 ≤ sizeLine; decide, fun t3 nt3 => ?_⟩
        have s5 := same_put (o := .tup [.ref t1, .ref t2]) nt3
        have sA := sG2.trans (s3.trans (s4.trans s5))
        refine q _ (.tuple [.tuple [.str x], .tuple [.str y]]) _ (bG.trans (But.of sA)) ((dG.up sA).le (by omega)) (.tup upd_same (.cons (.tup (s5 _ _ (s4 _ _ upd_same)) (.cons (.str x) .nil)) (.cons (.tup (s5 _ _ upd_same) (.cons (.str y) .nil)) .nil))) ⟨_, _, rfl, ?_, ?_, ?_⟩
        · exact cell_tm n0 mx (gd.nm _ mx).1
        · exact cell_tm n0 my (gd.nm _ my).1
        · have : PyData.eqv (.str x) (.str y) ≠ true := fun z => by
            rw [PyData.eqv, beq_iff_eq] at z
            rw [z] at lxy
            exact ltR_irrefl _ lxy
          unfold ltR at lxy ⊢
          rw [PySem.W.dataLt_tuple, PySem.W.dataLt_cons (by simp [PySem.W.alike]), if_neg this]
          exact lxy
end
end K12
/-! cut. -/
namespace K12
open PySem PySem.Spec PyProof.Rows L2 Kx StX
/-- what cut gives of (ps, c) and (qs, c2) -/
def CutD (ps : List PyData) (c : PyData) (qs : List PyData) (c2 r : PyData) : Prop :=
  ((c = .none ∨ c ∉ qs) ∧ r = .none) ∨ (c ≠ .none ∧ c ∈ qs ∧ ∃ L e2, FoD (ps ++ qs.filter fun z => !PyData.eqv z c) c2 (.tuple [.tuple L, e2]) ∧ ((e2 ≠ .none ∧ e2 ∈ L ∧ r = .none) ∨ (¬ (e2 ≠ .none ∧ e2 ∈ L) ∧ r = .tuple [.tuple L, e2])))
theorem CutD.uniq {ps qs : List PyData} {c c2 r r' : PyData} (h : CutD ps c qs c2 r) (h2 : CutD ps c qs c2 r') : r = r' := by
  rcases h with ⟨a1, b1⟩ | ⟨a1, b1, L, e2, f, h⟩ <;> rcases h2 with ⟨a2, b2⟩ | ⟨a2, b2, M, e3, g, h2⟩
  · rw [b1, b2]
  · exact absurd b2 (a1.elim (fun z => absurd z a2) id)
  · exact absurd b1 (a2.elim (fun z => absurd z a1) id)
  · have := f.uniq g fun _ _ => Iff.rfl
    simp only [PyData.tuple.injEq, List.cons.injEq, and_true] at this
    obtain ⟨rfl, rfl⟩ := this
    rcases h with ⟨x, y, h⟩ | ⟨x, h⟩ <;> rcases h2 with ⟨z, u, h2⟩ | ⟨z, h2⟩
    · rw [h, h2]
    · exact absurd ⟨x, y⟩ z
    · exact absurd ⟨z, u⟩ x
    · rw [h, h2]
theorem filter_len {α : Type} {p : α → Bool} : ∀ {l : List α}, (l.filter p).length = l.length ↔ ∀ x, x ∈ l → p x = true
  | [] => by simp
  | x :: l => by
    have := List.length_filter_le p l
    rw [List.filter_cons]
    by_cases h : p x = true
    · rw [if_pos h]
      simp only [List.length_cons, Nat.add_right_cancel_iff, filter_len, List.mem_cons, forall_eq_or_imp, h, true_and]
    · rw [if_neg h]
      constructor
      · intro e
        rw [List.length_cons] at e
        omega
      · intro e
        exact absurd (e x List.mem_cons_self) h
/-- of a fact's conclusion, two texts never are one -/
theorem fod_shape {ds : List PyData} {c r : PyData} (h : FoD ds c r) (n : c ≠ .none → ∃ a b, c = .tuple [a, b] ∧ tx a < tx b) : ∃ L, Prs ds L ∧ r = .tuple [.tuple L, c] := by
  obtain ⟨L, p, h⟩ := h
  rcases h with ⟨e1, e2⟩ | ⟨a, b, e1, h⟩
  · exact ⟨L, p, by rw [e2, e1]⟩
  · obtain ⟨a', b', e3, l⟩ := n (by rw [e1]; exact fun z => nomatch z)
    rw [e1] at e3
    simp only [PyData.tuple.injEq, List.cons.injEq, and_true] at e3
    obtain ⟨rfl, rfl⟩ := e3
    rcases h with ⟨m, _⟩ | ⟨m, h⟩ | ⟨m, _⟩
    · rw [m] at l; exact absurd l (List.lt_irrefl _)
    · exact ⟨L, p, by rw [h, e1]⟩
    · exact absurd (List.lt_trans l m) (List.lt_irrefl _)
theorem fact_couples {ps : List PyData} {c : PyData} (h : factD (.tuple [.tuple ps, c]) = true) : couplesD (ps ++ endOf c) = true := by
  have h : (couplesD (ps ++ endOf c) && ((ps ++ endOf c).all ordC && chainD (ps.map keyC))) = true := h
  rw [Bool.and_eq_true] at h
  exact h.1
theorem fact_ord {ps : List PyData} {c : PyData} (h : factD (.tuple [.tuple ps, c]) = true) : ∀ d, d ∈ ps ++ endOf c → ordC d = true := by
  have h : (couplesD (ps ++ endOf c) && ((ps ++ endOf c).all ordC && chainD (ps.map keyC))) = true := h
  rw [Bool.and_eq_true, Bool.and_eq_true] at h
  exact List.all_eq_true.mp h.2.1
section
variable {P : Program} {w : World} {K : PySem.W.Frag} {mg : Str → Option Value} {base : Heap}
def spCut (K : PySem.W.Frag) : Sp := fun vs H Q E => ∃ (x y : V) (ps qs : List PyData) (c c2 : PyData), vs = [x, y] ∧ Fz K H x (.tuple [.tuple ps, c]) ∧ Fz K H y (.tuple [.tuple qs, c2]) ∧ factD (.tuple [.tuple ps, c]) = true ∧ factD (.tuple [.tuple qs, c2]) = true ∧ couplesD ((ps ++ endOf c) ++ (qs ++ endOf c2)) = true ∧
  ∀ z r H', Same H H' → Dx K H' z r → CutD ps c qs c2 r → Q z H'
theorem ok_cut (T : Tx K mg) : FnOk P w K mg base (L2.CX P w) 7 T.acut T.dcut ["fact", "second"] (spCut K) := by
  have nd := sc_cut.nd
  have GF := ok_ckf (P := P) (w := w) (base := base) T
  have GI := ok_pi (P := P) (w := w) (base := base) T
  have GS := ok_sides (P := P) (w := w) (base := base) T
  have GJ := ok_jointL (P := P) (w := w) (base := base) T
  have GK := ok_key (P := P) (w := w) (base := base) T
  have GO := ok_fo (P := P) (w := w) (base := base) T
  have GN := ok_say (P := P) (w := w) (base := base) T
  refine T.fcut.okX sc_cut (fun vs H Q E h => ?_) (fun cdv A outer s H vs Q E hr h => ?_)
  · obtain ⟨x, y, ps, qs, c, c2, rfl, _⟩ := h
    rfl
  obtain ⟨x, y, ps, qs, c, c2, rfl, hx, hy, fx, fy, cj, q⟩ := h
  refine ⟨_, (pss_cons (ps_expr (pe_call GF (hr.mono (by omega)) (by rfl) T.gcheck_fact T.fcheck_fact.kp T.ncheck_fact .nil (passes_call (takes_of rfl rfl rfl rfl) (fun _ _ _ _ h => h)) (pa_cons (pv 0) pa_nil)))
      (pss_cons (ps_expr (pe_call GF (hr.mono (by omega)) (by rfl) T.gcheck_fact T.fcheck_fact.kp T.ncheck_fact .nil (passes_call (takes_of rfl rfl rfl rfl) (fun _ _ _ _ h => h)) (pa_cons (pv 1) pa_nil)))
      (pss_cons (ps_if (pt_cmpR op_isN (pe_call GJ (hr.mono (by omega)) (by rfl) T.gjoint_places T.fjoint_places.kp T.njoint_places .nil pass0 (pa_cons (pe_call GS (hr.mono (by omega)) (by rfl) T.gsides_of T.fsides_of.kp T.nsides_of .nil pass0 (pa_cons (pe_op op_cat (pe_call GI (hr.mono (by omega)) (by rfl) T.gpairs_in T.fpairs_in.kp T.npairs_in .nil pass0 (pa_cons (pv 0) pa_nil)) (pe_call GI (hr.mono (by omega)) (by rfl) T.gpairs_in T.fpairs_in.kp T.npairs_in .nil pass0 (pa_cons (pv 1) pa_nil))) pa_nil)) pa_nil)) pe_non (nomark _)) (pss_one (ps_raise rfl (takes_of rfl rfl rfl rfl) (pmk_own PySem.F.excBase_ValueError T.xInvalidFact T.gInvalidFact T.kInvalidFact (raises_own T.bInvalidFact T.tInvalidFact) (by rfl)))) pss_nil)
      (pss_cons (ps_if (pt_cmpR op_isN (pe_ix ix_tup (pv 0) pe_int (fun _ _ => rfl)) pe_non (nomark _)) (pss_one (ps_ret pe_non)) pss_nil)
      (pss_cons (ps_setLc (i := 2) (own := [("pair", 4)]) (g := (gName 4)) (by rfl) nd rfl rfl (sw_true rfl rfl rfl (by decide +kernel)) (pi_tup (pe_ix ix_tup (pv 1) pe_int (fun _ _ => rfl))) (blkOk_by (own := [("pair", 4)]) (N := N_cut) (sc := defScope s_cut) (by decide +kernel)) (fun _ _ _ _ _ => pg_name (i := 4) nd rfl (.inl rfl)) (fun _ _ _ _ _ => (pts_one (pt_cmpR (r := rNeF K) (op_neF (room200 hr)) (pe_call GK (hr.mono (by omega)) (by rfl) T.gkey_of T.fkey_of.kp T.nkey_of .nil pass0 (pa_cons (pv 4) pa_nil)) (pe_call GK (hr.mono (by omega)) (by rfl) T.gkey_of T.fkey_of.kp T.nkey_of .nil pass0 (pa_cons (pe_ix (r := rIxT K) ix_tup (pv 0) pe_int (fun _ _ => rfl)) pa_nil)) (nomark _)))) (fun _ _ _ _ _ => (pv 4)))
      (pss_cons (ps_if (pt_cmpR op_eq (pe_callB call_len_seq (by rfl) T.b_len (by decide +kernel) (pa_cons (pv 2) pa_nil)) (pe_callB call_len_seq (by rfl) T.b_len (by decide +kernel) (pa_cons (pe_ix ix_tup (pv 1) pe_int (fun _ _ => rfl)) pa_nil)) (nomark _)) (pss_one (ps_ret pe_non)) pss_nil)
      (pss_cons (ps_set (i := 3) nd rfl (.inl rfl) (pe_call GO (hr.mono (by omega)) (by rfl) T.gfact_of T.ffact_of.kp T.nfact_of .nil pass0 (pa_cons (pe_ix ix_tup (pv 1) pe_int (fun _ _ => rfl)) (pa_cons (pe_lst (pa_star (pe_ix ix_tup (pv 0) pe_int (fun _ _ => rfl)) (pa_star (pv 2) pa_nil))) pa_nil))))
      (pss_one (ps_ret (pe_ifExp (pt_val (pe_call GN (hr.mono (by omega)) (by rfl) T.gsays_nothing T.fsays_nothing.kp T.nsays_nothing .nil pass0 (pa_cons (pv 3) pa_nil))) pe_non (pv 3))))))))))), ?_⟩
  obtain ⟨f1, f2, f3, f4⟩ := fz_parts hx
  obtain ⟨g1, g2, g3, g4⟩ := fz_parts hy
  refine ⟨_, rfl, x, _, rfl, hx, fun _ H1 s1 => ⟨_, rfl, y, _, rfl, hy.up s1, fun _ H2 s2 => ?_, fun z => by rw [fy] at z; cases z⟩, fun z => by rw [fx] at z; cases z⟩
  have s12 := s1.trans s2
  obtain ⟨f, t, us, v, rfl, hf, ht, hus, hv⟩ := dx_fact (hx.up s12).dx
  obtain ⟨f', t', us', v', rfl, hf', ht', hus', hv'⟩ := dx_fact (hy.up s12).dx
  refine ⟨_, rfl, f, t, us, v, ps, c, rfl, hf, ht, hus, hv, by omega, fun p ys H3 s3 np hp dy => ?_⟩
  refine ⟨_, rfl, f', t', us', v', qs, c2, rfl, s3 _ _ hf', s3 _ _ ht', hus'.up s3, hv'.up s3, by omega, fun p' ys' H4 s4 np' hp' dy' => ?_⟩
  refine ⟨p, p', ys, ys', rfl, rfl, s4 _ _ hp, hp', ?_, fun l nl => ?_⟩
  · rw [dy.length, dy'.length]
    exact Nat.le_of_lt (small1000 (by omega))
  have s5 := same_put (o := .lst (ys ++ ys')) nl
  have cj2 := cj
  simp only [couplesD, Bool.and_eq_true] at cj2
  have za : szAll ((ps ++ endOf c) ++ (qs ++ endOf c2)) ≤ 100000 := by
    rw [szAll_append]
    omega
  have sa : shortAll ((ps ++ endOf c) ++ (qs ++ endOf c2)) = true := by
    rw [shortAll_append, f3, g3]
    rfl
  refine ⟨l, ys ++ ys', (ps ++ endOf c) ++ (qs ++ endOf c2), rfl, SqL.of upd_same, (DxAll.append (dy.up s4) dy').up s5, cj2.1, ?_, fun p3 ys3 H6 s6 hp3 dy3 => ?_⟩
  · rw [List.length_append]
    omega
  refine ⟨p3, ys3, _, rfl, SqL.of hp3, dy3, sides_short _ sa, Nat.le_trans (sides_sz _) za, fun z H7 s7 h1 h2 => ?_⟩
  obtain ⟨pm, ms, rfl, _⟩ := h2 cj2.2
  have s27 : Same H2 H7 := s3.trans (s4.trans (s5.trans (s6.trans s7)))
  have sH := s12.trans s27
  have hf7 := s27 _ _ hf
  have hf7' := s27 _ _ hf'
  have ht7 := s27 _ _ ht
  have ht7' := s27 _ _ ht'
  have hus7 := hus.up s27
  have hus7' := hus'.up s27
  have hv7 := hv.up s27
  have hv7' := hv'.up s27
  clear hf hf' ht ht' hus hus' hv hv' dy dy' hp hp' hp3 dy3 h1 h2
  refine ⟨rfl, _, rfl, iteF ⟨_, rfl, f, _, 1, v, rfl, rfl, SqT.of hf7, atI_nat (j := 1) rfl, rfl, _, rfl, ?_⟩⟩
  by_cases ev : v = .non
  · have ee := (dx_nil hv7).mpr ev
    subst ev
    exact iteT (q _ _ _ sH .non (.inl ⟨.inl ee, rfl⟩))
  have ee : c ≠ .none := fun z => ev ((dx_nil hv7).mp z)
  rw [decide_eq_false ev]
  have C := couples_cns (ds := ps ++ endOf c) (fact_couples fx) f4
  have C2 := couples_cns (ds := qs ++ endOf c2) (fact_couples fy) g4
  have CA : Cns ((ps ++ endOf c) ++ (qs ++ endOf c2)) := ⟨fun d hd => (List.mem_append.mp hd).elim (C.c d) (C2.c d), by
    have := cj2.2
    simp only [jointD, Bool.and_eq_true, decide_eq_true_eq] at this
    exact this.2⟩
  have mc : c ∈ ps ++ endOf c := by rw [endOf_some ee]; exact List.mem_append_right _ (List.mem_singleton_self _)
  have cc := C.c c mc
  refine iteF ⟨_, rfl, f', _, 0, .ref t', rfl, rfl, SqT.of hf7', atI_nat (j := 0) rfl, t', rfl, ⟨_, SqT.of ht7'⟩, fun D nD => ?_⟩
  have ly := hus7'.length
  have Cq : ∀ z, z ∈ qs → Cpl z := fun z hz => C2.c z (List.mem_append_left _ hz)
  have inA : ∀ z, z ∈ qs → z ∈ (ps ++ endOf c) ++ (qs ++ endOf c2) := fun z hz => List.mem_append_right _ (List.mem_append_left _ hz)
  have inC : c ∈ (ps ++ endOf c) ++ (qs ++ endOf c2) := List.mem_append_left _ mc
  refine lc_tup (K := K) (a := t') (xs := us') (fun i G => Same H7 G ∧ ∃ zs, G D = some (.lst zs) ∧ DxAll K G zs ((qs.take i).filter fun z => !PyData.eqv z c)) ⟨same_put nD, [], upd_same, .nil⟩ (fun i G _ h => SqT.of (h.1 _ _ ht7')) ?_ ?_
  · rintro i x G hi ⟨sG, zs, eD, dz⟩
    have lti : i < qs.length := by rw [← ly]; exact (List.getElem?_eq_some_iff.mp hi).1
    have gd := List.getElem?_eq_getElem lti
    obtain ⟨v2, hv2, dv⟩ := hus7'.get gd
    rw [hi] at hv2
    cases hv2
    have mi := List.getElem_mem lti
    obtain ⟨a, b, eab, wa, wb⟩ := Cq _ mi
    rw [eab] at dv gd mi
    obtain ⟨q1, u1, v1, rfl, hq1, du1, dv1⟩ := dx_couple dv
    obtain ⟨ca, cb, rfl, wca, wcb⟩ := cc
    obtain ⟨q2, u2, w2, rfl, hq2, du2, dv2⟩ := dx_couple hv7
    refine ⟨rfl, _, rfl, q1, u1, v1, a, b, rfl, sG _ _ hq1, du1.up sG, dv1.up sG, wa, wb, fun k1 G1 t1 nk1 hk1 => ?_⟩
    have sG1 := sG.trans t1
    refine ⟨_, rfl, f, _, 1, .ref q2, rfl, rfl, SqT.of (sG1 _ _ hf7), atI_nat (j := 1) rfl, q2, u2, w2, ca, cb, rfl, sG1 _ _ hq2, du2.up sG1, dv2.up sG1, wca, wcb, fun k2 G2 t2 nk2 hk2 => ?_⟩
    have sG2 := sG1.trans t2
    have ka := cpl_key (z := .tuple [a, b]) ⟨a, b, rfl, wa, wb⟩
    have kc := cpl_key (z := .tuple [ca, cb]) ⟨ca, cb, rfl, wca, wcb⟩
    refine ⟨keyC (.tuple [a, b]), keyC (.tuple [ca, cb]), Dx.dp ka.2.2.2 (.tup (t2 _ _ hk1) (.cons (.str _) (.cons (.str _) .nil))), Dx.dp kc.2.2.2 (.tup hk2 (.cons (.str _) (.cons (.str _) .nil))), ka.1, kc.1, by omega, _, rfl, ?_⟩
    have eqk : PyData.eqv (keyC (.tuple [a, b])) (keyC (.tuple [ca, cb])) = PyData.eqv (.tuple [a, b]) (.tuple [ca, cb]) := by
      rw [Bool.eq_iff_iff, key_eqv CA (inA _ mi) inC, eqv_cpl ⟨a, b, rfl, wa, wb⟩ ⟨ca, cb, rfl, wca, wcb⟩]
    rw [eqk]
    cases hb : PyData.eqv (.tuple [a, b]) (.tuple [ca, cb]) with
    | true =>
      refine (iteF (A := False) ?_ : if (!true) = true then _ else _)
      refine ⟨sG2, zs, t2 _ _ (t1 _ _ eD), ?_⟩
      rw [List.take_add_one, gd, List.filter_append]
      simp only [Option.toList_some, List.filter_cons, hb, Bool.not_true, List.filter_nil, Bool.false_eq_true, if_false, List.append_nil]
      exact dz.up (t1.trans t2)
    | false =>
      refine (iteT (B := False) ?_ : if (!false) = true then _ else _)
      have eD2 := t2 _ _ (t1 _ _ eD)
      refine ⟨_, rfl, zs, eD2, ?_, fun c o hc => ?_, zs ++ [.ref q1], upd_same, ?_⟩
      · have l1 := dz.length
        have l2 := List.length_filter_le (fun z => !PyData.eqv z (.tuple [ca, cb])) (qs.take i)
        rw [List.length_take] at l2
        exact small1000 (by omega)
      · rw [upd_ne (ne_of_none hc nD)]
        exact sG2 c o hc
      · have tl := Tups.lst (ys := zs ++ [.ref q1]) eD2
        have e1 : (qs.take (i + 1)).filter (fun z => !PyData.eqv z (.tuple [ca, cb])) = (qs.take i).filter (fun z => !PyData.eqv z (.tuple [ca, cb])) ++ [.tuple [a, b]] := by
          rw [List.take_add_one, gd, List.filter_append]
          simp only [Option.toList_some, List.filter_cons, hb, Bool.not_false, List.filter_nil, if_true]
        rw [e1]
        refine DxAll.ts tl _ _ (pure_cpl fun z hz => ?_) (DxAll.append (dz.up (t1.trans t2)) (.cons (dv.up sG2) .nil))
        rcases List.mem_append.mp hz with hz | hz
        · exact Cq z (List.mem_of_mem_take (List.mem_filter.mp hz).1)
        · exact ⟨a, b, List.mem_singleton.mp hz, wa, wb⟩
  rintro G ⟨sG, zs, eD, dz⟩
  rw [ly, List.take_length] at dz
  have lz := dz.length
  refine ⟨_, rfl, D, zs, rfl, .inl (SqL.of eD), ?_⟩
  refine ⟨_, rfl, f', _, 0, .ref t', rfl, rfl, SqT.of (sG _ _ hf7'), atI_nat (j := 0) rfl, t', us', rfl, .inr (SqT.of (sG _ _ ht7')), rfl, _, rfl, ?_⟩
  rw [dec_int, lz, ly]
  have sHG := sH.trans sG
  by_cases hl : (qs.filter fun z => !PyData.eqv z c).length = qs.length
  · rw [hl]
    have nm : c ∉ qs := fun z => by
      have := filter_len.mp hl c z
      rw [(eqv_cpl cc cc).mpr rfl] at this
      cases this
    rw [show (((qs.length : Nat) : Int) == ((qs.length : Nat) : Int)) = true from beq_self_eq_true _]
    exact iteT (q _ _ _ sHG .non (.inl ⟨.inr nm, rfl⟩))
  · have mq : c ∈ qs := Classical.byContradiction fun n => hl (filter_len.mpr fun z hz => by
      cases h : PyData.eqv z c with
      | false => rfl
      | true => exact absurd ((eqv_cpl (Cq z hz) cc).mp h ▸ hz) n)
    rw [show (((qs.filter fun z => !PyData.eqv z c).length : Int) == ((qs.length : Nat) : Int)) = false from beq_eq_false_iff_ne.mpr (by omega)]
    refine iteF ?_
    refine ⟨_, rfl, f', _, 1, v', rfl, rfl, SqT.of (sG _ _ hf7'), atI_nat (j := 1) rfl, ?_⟩
    refine ⟨_, rfl, f, _, 0, .ref t, rfl, rfl, SqT.of (sG _ _ hf7), atI_nat (j := 0) rfl, t, us, rfl, .inl (SqT.of (sG _ _ ht7)), ?_⟩
    refine ⟨_, rfl, D, zs, rfl, .inr (SqL.of eD), ?_, fun p9 np9 => ?_⟩
    · have l1 := List.length_filter_le (fun z => !PyData.eqv z c) qs
      have l2 := hus7.length
      simp only [List.length_append, List.length_nil]
      exact Nat.le_of_lt (small1000 (by omega))
    have s9 := same_put (o := .lst (us ++ (zs ++ []))) np9
    have dzn : DxAll K G (zs ++ []) (qs.filter fun z => !PyData.eqv z c) := by
      rw [List.append_nil]
      exact dz
    have sub9 : ∀ d, d ∈ ps ++ (qs.filter fun z => !PyData.eqv z c) → d ∈ (ps ++ endOf c) ++ (qs ++ endOf c2) := fun d hd => by
      rcases List.mem_append.mp hd with hd | hd
      · exact List.mem_append_left _ (List.mem_append_left _ hd)
      · exact inA d (List.mem_filter.mp hd).1
    have c2in : c2 ≠ .none → c2 ∈ (ps ++ endOf c) ++ (qs ++ endOf c2) := fun e2 => by
      rw [endOf_some e2]
      exact List.mem_append_right _ (List.mem_append_right _ (List.mem_singleton_self _))
    have C9 := CA.sub sub9
    have l1 := List.length_filter_le (fun z => !PyData.eqv z c) qs
    have l9 : (ps ++ (qs.filter fun z => !PyData.eqv z c)).length ≤ 300 := by
      rw [List.length_append]
      omega
    refine ⟨p9, v', c2, _, _, rfl, (hv7'.up sG).up s9, .inl (SqL.of upd_same), DxAll.append ((hus7.up sG).up s9) (dzn.up s9), C9, l9, fun e2 => CA.sub fun d hd => by rw [List.mem_singleton.mp hd]; exact c2in e2, fun y r G8 s8 dr fr => ?_⟩
    have nrm : c2 ≠ .none → ∃ a b, c2 = .tuple [a, b] ∧ tx a < tx b := fun e2 => by
      have o := fact_ord fy c2 (by rw [endOf_some e2]; exact List.mem_append_right _ (List.mem_singleton_self _))
      obtain ⟨a, b, rfl, _⟩ := C2.c c2 (by rw [endOf_some e2]; exact List.mem_append_right _ (List.mem_singleton_self _))
      exact ⟨a, b, rfl, of_decide_eq_true o⟩
    obtain ⟨L, pL, rfl⟩ := fod_shape fr nrm
    have s18 := sHG.trans (s9.trans s8)
    have CL : Cns (L ++ endOf c2) := pL.cns CA sub9 fun d hd => by
      by_cases e2 : c2 = .none
      · subst e2
        cases hd
      · rw [endOf_some e2] at hd
        rw [List.mem_singleton.mp hd]
        exact c2in e2
    refine ⟨_, rfl, y, L, c2, rfl, dr, CL, Nat.le_trans pL.len l9, fun b G9 s10 hb => ⟨_, rfl, ?_⟩⟩
    have s19 := s18.trans s10
    cases b with
    | true =>
      obtain ⟨e2, m2⟩ := hb.mp rfl
      exact iteT (q _ _ _ s19 .non (.inr ⟨ee, mq, L, c2, fr, .inl ⟨e2, m2, rfl⟩⟩))
    | false => exact iteF ⟨_, rfl, q _ _ _ s19 (dr.up s10) (.inr ⟨ee, mq, L, c2, fr, .inr ⟨fun z => (nomatch hb.mpr z), rfl⟩⟩)⟩
end
end K12
/-! Pairs kept by their texts, and sorted. -/
namespace K12
open PySem PySem.Spec PyProof.Rows L2 Kx
mutual
theorem tx_ne : ∀ (d : PyData), formedD d = true → ∀ c, c ∈ tx d → c ≠ 61
  | .tuple (a :: ds), hd, c, hc => by
    obtain ⟨x, ds', ed, _, hx, hds⟩ := formed_shape hd
    injection ed with ed
    injection ed with e1 e2
    subst e1 e2
    have hc : c ∈ x.cps.toList ++ txA ds := hc
    rcases List.mem_append.mp hc with h | h
    · have := letters hx c h
      omega
    · exact txA_ne ds hds c h
  | .tuple [], hd, _, _ => by cases hd
  | .none, hd, _, _ => by cases hd
  | .bool _, hd, _, _ => by cases hd
  | .int _, hd, _, _ => by cases hd
  | .str _, hd, _, _ => by cases hd
  | .list _, hd, _, _ => by cases hd
  | .dict _, hd, _, _ => by cases hd
theorem txA_ne : ∀ (ds : List PyData), formedAll ds = true → ∀ c, c ∈ txA ds → c ≠ 61
  | [], _, _, hc => by cases hc
  | d :: ds, h, c, hc => by
    rw [formedAll, Bool.and_eq_true] at h
    rw [txA] at hc
    rcases List.mem_cons.mp hc with rfl | hc
    · decide
    · rcases List.mem_append.mp hc with hc | hc
      · exact tx_ne d h.1 c hc
      · rcases List.mem_append.mp hc with hc | hc
        · exact txM_ne ds h.2 c hc
        · rw [List.mem_singleton.mp hc]
          decide
theorem txM_ne : ∀ (ds : List PyData), formedAll ds = true → ∀ c, c ∈ txM ds → c ≠ 61
  | [], _, _, hc => by cases hc
  | d :: ds, h, c, hc => by
    rw [formedAll, Bool.and_eq_true] at h
    rw [txM] at hc
    rcases List.mem_cons.mp hc with rfl | hc
    · decide
    · rcases List.mem_append.mp hc with hc | hc
      · exact tx_ne d h.1 c hc
      · exact txM_ne ds h.2 c hc
end
def keyT (a b : PyData) : Str := tS (tx a ++ 61 :: tx b)
theorem split_at : ∀ {l m u v : List Nat}, (∀ c, c ∈ l → c ≠ 61) → (∀ c, c ∈ m → c ≠ 61) → l ++ 61 :: u = m ++ 61 :: v → l = m ∧ u = v
  | [], [], u, v, _, _, h => by simpa using h
  | [], c :: m, u, v, _, hm, h => by
    simp only [List.nil_append, List.cons_append, List.cons.injEq] at h
    exact absurd h.1.symm (hm c List.mem_cons_self)
  | c :: l, [], u, v, hl, _, h => by
    simp only [List.nil_append, List.cons_append, List.cons.injEq] at h
    exact absurd h.1 (hl c List.mem_cons_self)
  | c :: l, d :: m, u, v, hl, hm, h => by
    simp only [List.cons_append, List.cons.injEq] at h
    obtain ⟨e1, e2⟩ := split_at (fun x hx => hl x (List.mem_cons_of_mem _ hx)) (fun x hx => hm x (List.mem_cons_of_mem _ hx)) h.2
    exact ⟨by rw [h.1, e1], e2⟩
theorem keyT_inj {a b c d : PyData} (fa : formedD a = true) (fc : formedD c = true) (h : keyT a b = keyT c d) : tx a = tx c ∧ tx b = tx d := split_at (tx_ne a fa) (tx_ne c fc) (tS_inj h)
theorem keyT_eq {a b c d : PyData} (h : tx a = tx c) (h2 : tx b = tx d) : keyT a b = keyT c d := by
  unfold keyT
  rw [h, h2]
theorem keyT_text {a b : PyData} : (tS (tx a) ++ "=") ++ tS (tx b) = keyT a b := by
  rw [show ("=" : Str) = tS [61] from rfl, tS_app, tS_app]
  unfold keyT
  simp
/-- the dict of pairs of ds, by their texts -/
structure KpD (K : PySem.W.Frag) (G : Hp) (ds : List PyData) (kvs : List (Key × V)) : Prop where
  nd : (kvs.map Prod.fst).Nodup
  at_ : ∀ p, p ∈ kvs → ∃ a b, p.1 = .inr (keyT a b) ∧ Dx K G p.2 (.tuple [a, b]) ∧ Nz ds a b
  all : ∀ a b, Nz ds a b → (.inr (keyT a b) : Key) ∈ kvs.map Prod.fst
theorem KpD.nil {K : PySem.W.Frag} {G : Hp} : KpD K G [] [] := ⟨List.nodup_nil, (fun p hp => by cases hp), fun a b h => by rcases h.2 with z | z <;> cases z⟩
theorem KpD.ts {K : PySem.W.Frag} {G G' : Hp} {ds : List PyData} {kvs : List (Key × V)} (h : KpD K G ds kvs) (C : Cns ds) (t : Tups G G') : KpD K G' ds kvs := ⟨h.nd, fun p hp => by
  obtain ⟨a, b, e, dp, n⟩ := h.at_ p hp
  obtain ⟨⟨fa, fb⟩, _⟩ := C.side n.2
  exact ⟨a, b, e, Dx.ts t _ _ (pure_two fa fb) dp, n⟩, h.all⟩
theorem KpD.put {K : PySem.W.Frag} {G : Hp} {ds : List PyData} {z : PyData} {kvs : List (Key × V)} {a b : PyData} {v : V} (h : KpD K G ds kvs) (dv : Dx K G v (.tuple [a, b])) (l : tx a < tx b) (ez : z = .tuple [a, b] ∨ z = .tuple [b, a]) : KpD K G (ds ++ [z]) (putK kvs (.inr (keyT a b)) v) := by
  have nz : Nz (ds ++ [z]) a b := ⟨l, by rcases ez with rfl | rfl <;> simp⟩
  refine ⟨nodup_put h.nd, fun p hp => ?_, fun c d hcd => ?_⟩
  · rcases mem_put hp with rfl | ⟨hp, _⟩
    · exact ⟨a, b, rfl, dv, nz⟩
    · obtain ⟨c, d, e, dp, n⟩ := h.at_ p hp
      exact ⟨c, d, e, dp, nz_mono (fun _ hz => List.mem_append_left _ hz) n⟩
  · rw [mem_fst_put]
    have key : ∀ x y : PyData, PyData.tuple [x, y] = z → (tx x = tx a ∧ tx y = tx b) ∨ (tx x = tx b ∧ tx y = tx a) := fun x y e => by
      rcases ez with rfl | rfl
      · simp only [PyData.tuple.injEq, List.cons.injEq, and_true] at e
        obtain ⟨rfl, rfl⟩ := e
        exact .inl ⟨rfl, rfl⟩
      · simp only [PyData.tuple.injEq, List.cons.injEq, and_true] at e
        obtain ⟨rfl, rfl⟩ := e
        exact .inr ⟨rfl, rfl⟩
    have fin : ∀ x y : PyData, tx x < tx y → ((tx x = tx a ∧ tx y = tx b) ∨ (tx x = tx b ∧ tx y = tx a)) → (.inr (keyT x y) : Key) = .inr (keyT a b) := fun x y l2 e => by
      rcases e with ⟨e1, e2⟩ | ⟨e1, e2⟩
      · rw [keyT_eq e1 e2]
      · rw [e1, e2] at l2
        exact absurd (List.lt_trans l2 l) (List.lt_irrefl _)
    rcases hcd.2 with m | m
    · rcases List.mem_append.mp m with m | m
      · exact .inl (h.all c d ⟨hcd.1, .inl m⟩)
      · exact .inr (fin c d hcd.1 (key c d (List.mem_singleton.mp m)))
    · rcases List.mem_append.mp m with m | m
      · exact .inl (h.all c d ⟨hcd.1, .inr m⟩)
      · exact .inr (fin c d hcd.1 ((key d c (List.mem_singleton.mp m)).symm.imp And.symm And.symm))
theorem KpD.skip {K : PySem.W.Frag} {G : Hp} {ds : List PyData} {kvs : List (Key × V)} {a b : PyData} (h : KpD K G ds kvs) (e : tx a = tx b) : KpD K G (ds ++ [.tuple [a, b]]) kvs := by
  refine ⟨h.nd, fun p hp => ?_, fun c d hcd => ?_⟩
  · obtain ⟨c, d, e, dp, n⟩ := h.at_ p hp
    exact ⟨c, d, e, dp, nz_mono (fun _ hz => List.mem_append_left _ hz) n⟩
  · have no : ∀ x y : PyData, PyData.tuple [x, y] = .tuple [a, b] → tx x = tx y := fun x y z => by
      simp only [PyData.tuple.injEq, List.cons.injEq, and_true] at z
      obtain ⟨rfl, rfl⟩ := z
      exact e
    rcases hcd.2 with m | m
    · rcases List.mem_append.mp m with m | m
      · exact h.all c d ⟨hcd.1, .inl m⟩
      · exact absurd hcd.1 (by rw [no c d (List.mem_singleton.mp m)]; exact List.lt_irrefl _)
    · rcases List.mem_append.mp m with m | m
      · exact h.all c d ⟨hcd.1, .inr m⟩
      · exact absurd hcd.1 (by rw [no d c (List.mem_singleton.mp m)]; exact List.lt_irrefl _)
theorem unlocked1 {a : Addr} {H G : Hp} {u : HO} (b : ButL [a] H G) (h : H a = some u) : Same H (upd G a u) := fun c o e => by
  by_cases z : c = a
  · rw [z, h] at e
    rw [z, upd_same]
    exact e
  · rw [upd_ne z]
    exact b c o e (by simp [z])
theorem keyToks_pair {a b c d : PyData} (fa : formedD a = true) (fb : formedD b = true) (fc : formedD c = true) (fd : formedD d = true) (h : PySem.W.keyToks (.tuple [a, b]) = PySem.W.keyToks (.tuple [c, d])) : a = c ∧ b = d := by
  have al : PySem.W.alike (.tuple [a, b]) (.tuple [c, d]) = true := by simp [PySem.W.alike, PySem.W.alikeAll, alike_formed a c fa fc, alike_formed b d fb fd]
  cases q : PyData.eqv (.tuple [a, b]) (.tuple [c, d]) with
  | true =>
    simp only [PyData.eqv, PyData.eqvAll, Bool.and_true, Bool.and_eq_true, eqv_formed a c fa fc, eqv_formed b d fb fd] at q
    exact q
  | false =>
    have z := (PySem.W.toks_eqv _ _ al).2 q [] [.inl 0]
    rw [h, List.append_nil] at z
    have z1 : PyProof.Rows.lexLt itemOrd (PySem.W.keyToks (.tuple [c, d])) (PySem.W.keyToks (.tuple [c, d])) = false := lex_irrefl _
    have z2 := PySem.W.lex_pre (PySem.W.keyToks (.tuple [c, d])) [] [.inl 0]
    rw [List.append_nil, z, z1] at z2
    exact absurd z2 (by decide)
theorem zip_dx {K : PySem.W.Frag} {H : Hp} : ∀ {vs : List V} {ds : List PyData}, DxAll K H vs ds → ∀ p, p ∈ vs.zip ds → Dx K H p.1 p.2
  | [], _, _, p, hp => by cases hp
  | v :: vs, ds, h, p, hp => by
    cases h with
    | cons a b =>
      rcases List.mem_cons.mp hp with rfl | hp
      · exact a
      · exact zip_dx b p hp
/-- sorted([kept[key] for key in kept]) -/
theorem sorted_pairs {K : PySem.W.Frag} {σ : L2.St} {i j : Nat} {H : Hp} {Q : VK} {fd : Addr} {kvs : List (Key × V)} {ds : List PyData} (hi : σ[i]? = some (some (.ref fd))) (hij : i ≠ j) (lj : j < σ.length) (e : H fd = some (.dK kvs)) (kp : KpD K H ds kvs) (C : Cns ds) (few : kvs.length ≤ 300) (dp : ∀ x, x ∈ sidesD ds → x.depth ≤ 58)
    (q : ∀ p us L H', Same H H' → H' p = some (.lst us) → DxAll K H' us L → Prs ds L → Q (.ref p) H') : tLockE (tLc (iKeys (tVar i)) (gName j) tYes (tDGet (tVar i) (tVar j)) [j]) σ H fun x H1 => rSortD K [x] H1 Q := by
  have hi2 : (σ.set j none)[i]? = some (some (.ref fd)) := by rw [List.getElem?_set_ne hij.symm]; exact hi
  refine ⟨fd, .dK kvs, e, trivial, fun od => ⟨_, hi, fd, od, rfl, .inl ⟨kvs, upd_same, fun D nD => ?_⟩⟩⟩
  have eL : (upd H fd (.frz od (.dK kvs))) fd = some (.frz od (.dK kvs)) := upd_same
  have bL : ButL [fd] H (upd H fd (.frz od (.dK kvs))) := ButL.refl.put (List.mem_singleton_self _)
  have tL : Tups H (upd H fd (.frz od (.dK kvs))) := fun b us h => by
    rw [upd_ne (ne_of h e (fun z => nomatch z))]
    exact h
  have kpL := kp.ts C tL
  generalize upd H fd (.frz od (.dK kvs)) = L at eL bL kpL nD ⊢
  have nfD : fd ≠ D := ne_of_none eL nD
  refine lc_keys (fun n G => Same L G ∧ ∃ vs M, G D = some (.lst vs) ∧ DxAll K L vs M ∧ vs = (kvs.take n).map Prod.snd ∧ M.length = vs.length ∧ ∀ (m : Nat) z, M[m]? = some z → ∃ a b, z = .tuple [a, b] ∧ Nz ds a b ∧ ∃ p, kvs[m]? = some p ∧ p.1 = .inr (keyT a b)) ⟨same_put nD, [], [], upd_same, .nil, rfl, rfl, fun m z h => by cases h⟩ (fun n G h => h.1 _ _ eL) ?_ ?_
  · rintro n k v G hk ⟨sG, vs, M, eD, dM, ev, lM, aM⟩
    have mem := List.mem_of_getElem? hk
    have lt : n < kvs.length := (List.getElem?_eq_some_iff.mp hk).1
    obtain ⟨a, b, ek, dv, nz⟩ := kpL.at_ _ mem
    have lv : vs.length = n := by
      rw [ev, List.length_map, List.length_take]
      omega
    refine ⟨by show ((σ.set j none).set j (some (kV k))).set j none = σ.set j none; rw [List.set_set, List.set_set], (iteT (B := False) ?_ : if true = true then _ else False)⟩
    refine ⟨_, (by show ((σ.set j none).set j (some (kV k)))[i]? = _; rw [List.getElem?_set_ne hij.symm]; exact hi2), _, (by show ((σ.set j none).set j (some (kV k)))[j]? = _; rw [List.getElem?_set_self (by rw [List.length_set]; exact lj)]), fd, v, rfl, .inl ⟨kvs, k, .inr ⟨od, sG _ _ eL⟩, rfl, (val_of_mem kpL.nd mem).symm⟩, vs, eD, small1000 (by omega), fun c o hc => ?_, vs ++ [v], M ++ [.tuple [a, b]], upd_same, DxAll.append dM (.cons dv .nil), ?_, by rw [List.length_append, List.length_append, lM]; rfl, fun m z hm => ?_⟩
    · rw [upd_ne (ne_of_none hc nD)]
      exact sG c o hc
    · rw [ev, List.take_add_one, hk, List.map_append]
      rfl
    · by_cases hmn : m < M.length
      · rw [List.getElem?_append_left hmn] at hm
        exact aM m z hm
      · rw [List.getElem?_append_right (by omega)] at hm
        have m0 : m = n := by
          have := (List.getElem?_eq_some_iff.mp hm).1
          rw [List.length_singleton] at this
          omega
        rw [m0, lM, lv, Nat.sub_self] at hm
        cases hm
        exact ⟨a, b, rfl, nz, _, by rw [m0]; exact hk, ek⟩
  · rintro G ⟨sG, vs, M, eD, dM, ev, lM, aM⟩
    rw [List.take_length] at ev
    refine ⟨sG _ _ eL, ?_⟩
    have s1 : Same H (upd G fd (.dK kvs)) := unlocked1 (bL.trans (ButL.of sG)) e
    have eD1 : (upd G fd (.dK kvs)) D = some (.lst vs) := by
      rw [upd_ne nfD.symm]
      exact eD
    have tG : Tups L (upd G fd (.dK kvs)) := fun b us h => by
      rw [upd_ne (ne_of h eL (fun z => nomatch z))]
      exact sG _ _ h
    have cM : ∀ z, z ∈ M → ∃ a b, z = .tuple [a, b] ∧ Nz ds a b := fun z hz => by
      obtain ⟨m, hm⟩ := List.getElem?_of_mem hz
      obtain ⟨a, b, e, n, _⟩ := aM m z hm
      exact ⟨a, b, e, n⟩
    have pM : pureAll M = true := by
      have : ∀ l : List PyData, (∀ z, z ∈ l → ∃ a b, z = .tuple [a, b] ∧ Nz ds a b) → pureAll l = true := fun l => by
        induction l with
        | nil => intro _; rfl
        | cons z l ih =>
          intro h
          obtain ⟨a, b, rfl, n⟩ := h z List.mem_cons_self
          obtain ⟨⟨fa, fb⟩, _⟩ := C.side n.2
          rw [pureAll, pure_two fa fb, ih fun y hy => h y (List.mem_cons_of_mem _ hy)]
          rfl
      exact this M cM
    have dM1 := DxAll.ts tG _ _ pM dM
    generalize upd G fd (.dK kvs) = H1 at s1 eD1 dM1 ⊢
    have lv : vs.length ≤ 300 := by
      rw [ev, List.length_map]
      exact few
    obtain ⟨its, ei⟩ : ∃ its : List Item, its = vs.zip M := ⟨_, rfl⟩
    have e1 : its.map Prod.fst = vs := by rw [ei, List.map_fst_zip (by omega)]
    have e2 : its.map Prod.snd = M := by rw [ei, List.map_snd_zip (by omega)]
    have each : ∀ p, p ∈ its → Dx K H1 p.1 p.2 := by
      rw [ei]
      exact zip_dx dM1
    have inM : ∀ p, p ∈ its → p.2 ∈ M := fun p hp => by rw [← e2]; exact List.mem_map.mpr ⟨p, hp, rfl⟩
    refine ⟨D, its, rfl, by rw [e1]; exact SqL.of eD1, fun p hp => ?_, ?_, ?_, ?_, fun p hp => ?_, fun p np => ?_⟩
    · obtain ⟨a, b, ez, n⟩ := cM _ (inM p hp)
      obtain ⟨⟨fa, fb⟩, _⟩ := C.side n.2
      refine Dx.dp ?_ (each p hp)
      rw [ez]
      simp [PyData.hasDict, PyData.hasDictAll, (lay_formed a fa).2, (lay_formed b fb).2]
    · rw [e2]
      intro d hd d' hd'
      obtain ⟨a, b, rfl, n⟩ := cM d hd
      obtain ⟨a', b', rfl, n'⟩ := cM d' hd'
      obtain ⟨⟨fa, fb⟩, _⟩ := C.side n.2
      obtain ⟨⟨fa', fb'⟩, _⟩ := C.side n'.2
      simp [PySem.W.alike, PySem.W.alikeAll, alike_formed a a' fa fa', alike_formed b b' fb fb']
    · rw [e2]
      exact .inl fun d hd => by
        obtain ⟨a, b, rfl, n⟩ := cM d hd
        exact ⟨_, _, rfl⟩
    · have := congrArg List.length e1
      rw [List.length_map] at this
      rw [this]
      exact Nat.le_of_lt (small1000 (by omega))
    · obtain ⟨a, b, ez, n⟩ := cM _ (inM p hp)
      obtain ⟨_, ma, mb⟩ := C.side n.2
      have d1 := dp a ma
      have d2 := dp b mb
      rw [ez]
      simp only [PyData.depth, PyData.depthAll]
      omega
    · have nd : (its.map fun b => PySem.W.keyToks b.2).Nodup := by
        have : (its.map fun b => PySem.W.keyToks b.2) = M.map PySem.W.keyToks := by rw [← e2, List.map_map]; rfl
        rw [this, List.Nodup, List.pairwise_map, List.pairwise_iff_getElem]
        intro m m' hm hm' lt he
        obtain ⟨a, b, ez, n, p1, hp1, k1⟩ := aM m _ (List.getElem?_eq_getElem hm)
        obtain ⟨c, d, ez', n', p2, hp2, k2⟩ := aM m' _ (List.getElem?_eq_getElem hm')
        obtain ⟨⟨fa, fb⟩, _⟩ := C.side n.2
        obtain ⟨⟨fc, fd2⟩, _⟩ := C.side n'.2
        rw [ez, ez'] at he
        obtain ⟨e3, e4⟩ := keyToks_pair fa fb fc fd2 he
        rw [e3, e4, ← k2] at k1
        have h1 := List.getElem?_eq_some_iff.mp hp1
        have h2 := List.getElem?_eq_some_iff.mp hp2
        have ndk := kpL.nd
        rw [List.Nodup, List.pairwise_map, List.pairwise_iff_getElem] at ndk
        have := ndk m m' h1.1 h2.1 lt
        rw [h1.2, h2.2] at this
        exact this k1
      have srt := sort_strict (k := Prod.snd) (l := its) nd
      have pz := List.mergeSort_perm its (PySem.W.dataLe false Prod.snd)
      refine q p _ ((its.mergeSort (PySem.W.dataLe false Prod.snd)).map Prod.snd) _ (s1.trans (same_put np)) upd_same ?_ ⟨fun z => ?_, ?_⟩
      · have each2 : ∀ l : List Item, (∀ p, p ∈ l → Dx K H1 p.1 p.2) → DxAll K H1 (l.map Prod.fst) (l.map Prod.snd) := fun l => by
          induction l with
          | nil => intro _; exact .nil
          | cons x l ih => intro h; exact .cons (h x List.mem_cons_self) (ih fun y hy => h y (List.mem_cons_of_mem _ hy))
        exact (each2 _ fun p hp => each p (pz.mem_iff.mp hp)).up (same_put np)
      · rw [(pz.map Prod.snd).mem_iff, e2]
        constructor
        · intro hz
          exact cM z hz
        · rintro ⟨a, b, rfl, n⟩
          obtain ⟨p1, hp1, k1⟩ := List.mem_map.mp (kpL.all a b n)
          obtain ⟨m, hm⟩ := List.getElem?_of_mem hp1
          have lt : m < M.length := by
            rw [lM, ev, List.length_map]
            exact (List.getElem?_eq_some_iff.mp hm).1
          obtain ⟨c, d, ez, n', p2, hp2, k2⟩ := aM m _ (List.getElem?_eq_getElem lt)
          rw [hm] at hp2
          cases hp2
          rw [k1] at k2
          injection k2 with k2
          obtain ⟨⟨fa, fb⟩, ma, mb⟩ := C.side n.2
          obtain ⟨⟨fc, fd2⟩, mc, md⟩ := C.side n'.2
          obtain ⟨e3, e4⟩ := keyT_inj fa fc k2
          rw [tx_inj fa fc (C.two ma mc) e3, tx_inj fb fd2 (C.two mb md) e4, ← ez]
          exact List.getElem_mem lt
      · rw [List.pairwise_map]
        exact srt
end K12
/-! _law_due, _law_drawn_fact. -/
namespace K12
open PySem PySem.Spec PyProof.Rows L2 Kx
section
variable {P : Program} {w : World} {K : PySem.W.Frag} {mg : Str → Option Value} {base : Heap}
abbrev rAddS : R2 := fun x y H Q => ∃ i j, x = .str i ∧ y = .str j ∧ i.length + j.length ≤ sizeLine ∧ Q (.str (i ++ j)) H
theorem tx_six {d : PyData} (f : formedD d = true) (dp : d.depth ≤ 6) : (tx d).length ≤ 20000 := by
  have z := sz_formed d 6 f dp
  have b6 : big 6 = 1457 := rfl
  have := tx_sz d f
  omega
/-- _law_text(pair[0]) + "=" + _law_text(pair[1]) -/
theorem key_rd {σ : L2.St} {i : Nat} {p : Addr} {u v : V} {a b : PyData} {H : Hp} {Q : VK} (hi : σ[i]? = some (some (.ref p))) (hp : H p = some (.tup [u, v])) (du : Dx K H u a) (dv : Dx K H v b) (fa : formedD a = true) (fb : formedD b = true) (da : a.depth ≤ 6) (db : b.depth ≤ 6)
    (q : ∀ H', Same H H' → Q (.str (keyT a b)) H') : tOp rAddS (tOp rAddS (tCall (spTxt K 6) [] E0 (tCons (tOp (rIxT K) (tVar i) (tC (.int 0))) tNil)) (tC (.str "="))) (tCall (spTxt K 6) [] E0 (tCons (tOp (rIxT K) (tVar i) (tC (.int 1))) tNil)) σ H Q := by
  have la := tx_six fa da
  have lb := tx_six fb db
  have sz : 50000 ≤ sizeLine := by decide
  have e1 : (tS (tx a) ++ "=").length = (tx a).length + 1 := by
    show (tS (tx a) ++ "=").cps.size = _
    rw [← Array.length_toList, str_app, List.length_append]
    simp [tS]
    rfl
  refine ⟨_, hi, p, _, 0, u, rfl, rfl, SqT.of hp, atI_nat (j := 0) rfl, u, a, rfl, du, fa, da, by omega, fun H1 s1 => ?_⟩
  refine ⟨_, _, rfl, rfl, by rw [tS_len]; show (tx a).length + 1 ≤ _; omega, ?_⟩
  refine ⟨_, hi, p, _, 1, v, rfl, rfl, SqT.of (s1 _ _ hp), atI_nat (j := 1) rfl, v, b, rfl, dv.up s1, fb, db, by omega, fun H2 s2 => ?_⟩
  refine ⟨_, _, rfl, rfl, by rw [tS_len, e1]; omega, ?_⟩
  rw [keyT_text]
  exact q H2 (s1.trans s2)
theorem ordP_tx {a b : PyData} (fa : formedD a = true) (fb : formedD b = true) (F : Func (rowsD a ++ rowsD b)) (ne : a ≠ b) : ∃ c d, ordP a b = .tuple [c, d] ∧ tx c < tx d ∧ ((c = a ∧ d = b) ∨ (c = b ∧ d = a)) := by
  unfold ordP
  by_cases h : ltR a b
  · rw [if_pos h]
    exact ⟨a, b, rfl, (tx_lt fa fb F).mpr h, .inl ⟨rfl, rfl⟩⟩
  · rw [if_neg h]
    refine ⟨b, a, rfl, (tx_lt fb fa F.swap).mpr ?_, .inr ⟨rfl, rfl⟩⟩
    rcases ltR_tri fa fb with z | z | z
    · exact absurd z h
    · exact absurd z ne
    · exact z
abbrev rTupOf (K : PySem.W.Frag) : List V → Hp → VK → Prop := fun xs H Q => ∃ p ys, xs = [V.ref p] ∧ ((SqL K H p ys ∧ ∀ l, H l = none → Q (.ref l) (upd H l (.tup ys))) ∨ (SqT K H p ys ∧ Q (.ref p) H))
/-- name = tuple(sorted([kept[key] for key in kept])) -/
theorem asg_sorted {σ : L2.St} {i j g : Nat} {H : Hp} {rest : TS} {D : L2.Ends} {fd : Addr} {kvs : List (Key × V)} {ds : List PyData} (hi : σ[i]? = some (some (.ref fd))) (hij : i ≠ j) (lj : j < σ.length) (e : H fd = some (.dK kvs)) (kp : KpD K H ds kvs) (C : Cns ds) (few : kvs.length ≤ 300) (dp : ∀ x, x ∈ sidesD ds → x.depth ≤ 58)
    (q : ∀ p us L H', Same H H' → H' p = some (.tup us) → DxAll K H' us L → Prs ds L → rest D (σ.set g (some (.ref p))) H') : tSeq (tAsg (tCB (rTupOf K) (tCons (tCB (rSortD K) (tCons (tLockE (tLc (iKeys (tVar i)) (gName j) tYes (tDGet (tVar i) (tVar j)) [j])) tNil)) tNil)) (gName g)) rest D σ H :=
  sorted_pairs (Q := fun y H2 => rTupOf K [y] H2 fun z H3 => rest D (σ.set g (some z)) H3) hi hij lj e kp C few dp fun p us L H1 s1 ep dL pL => ⟨p, us, rfl, .inl ⟨SqL.of ep, fun t nt => q t us L _ (s1.trans (same_put nt)) upd_same (dL.up (same_put nt)) pL⟩⟩
/-- what the law's own fact is -/
def DueD (ds : List PyData) (told r : PyData) : Prop := ∃ L, Prs ds L ∧ ((told = .none ∧ r = .tuple [.tuple L, .none]) ∨ ∃ a b, told = .tuple [a, b] ∧ r = .tuple [.tuple L, ordP a b])
def spDue (K : PySem.W.Frag) : Sp := fun vs H Q _ => ∃ (x : V) (a : Addr) (xs : List V) (ds : List PyData) (told : PyData), vs = [x, .ref a] ∧ Dx K H x told ∧ SqL K H a xs ∧ DxAll K H xs ds ∧ Cns ds ∧ ds.length ≤ 100 ∧ (∀ y, y ∈ sidesD ds → y.depth ≤ 6) ∧ (told = .none ∨ ∃ a b, told = .tuple [a, b] ∧ formedD a = true ∧ formedD b = true ∧ a.depth ≤ 6) ∧
  ∀ y r H', Same H H' → Dx K H' y r → DueD ds told r → Q y H'
theorem ok_due (T : Tx K mg) : FnOk P w K mg base CX0 8 T.a_law_due T.d_law_due ["told", "raw"] (spDue K) := by
  have nd := sc__law_due.nd
  have GP := ok_lp (P := P) (w := w) (base := base) T
  have GT := ok_txt (P := P) (w := w) (base := base) T 6
  refine T.f_law_due.ok sc__law_due (fun vs H Q E h => ?_) (fun cdv A outer s H vs Q E hr h => ?_)
  · obtain ⟨x, a, xs, ds, told, rfl, _⟩ := h
    rfl
  obtain ⟨x, a, xs, ds, told, rfl, hx, ha, hxs, C, few, dps, ht, q⟩ := h
  have hu := hu_of hr
  refine ⟨_, (pss_cons (ps_set (i := 2) nd rfl (.inr rfl) pe_dnewK)
      (pss_cons (ps_for PassesOwn.never rfl (pi_list (pv 1)) (pg_tup rfl (pgs_cons (pg_name (i := 3) nd rfl (.inl rfl)) (pgs_cons (pg_name (i := 4) nd rfl (.inl rfl)) pgs_nil))) (pss_one (ps_if (pt_cmpR (op_neF (room200 hr)) (pv 3) (pv 4) (nomark _)) (pss_cons (ps_set (i := 5) nd rfl (.inl rfl) (pe_call GP (hr.mono (by omega)) (by rfl) T.g_law_pair T.f_law_pair.kp T.n_law_pair .nil pass0 (pa_cons (pv 3) (pa_cons (pv 4) pa_nil))))
      (pss_one (ps_asg (pv 5) (pg_sub (pv 2) (pe_op op_add_str (pe_op op_add_str (pe_call GT (hr.mono (by omega)) (by rfl) T.g_law_text T.f_law_text.kp T.n_law_text .nil pass0 (pa_cons (pe_ix ix_tup (pv 5) pe_int (fun _ _ => rfl)) pa_nil)) pe_str) (pe_call GT (hr.mono (by omega)) (by rfl) T.g_law_text T.f_law_text.kp T.n_law_text .nil pass0 (pa_cons (pe_ix ix_tup (pv 5) pe_int (fun _ _ => rfl)) pa_nil))) (set_dict hu))))) pss_nil)))
      (pss_cons (ps_set (i := 6) nd rfl (.inl rfl) (pe_callTy call_tuple_of (by rfl) T.b_tuple (by decide +kernel) (pa_cons (pe_callB (cr_sortedD hr.units) (by rfl) T.b_sorted (by decide +kernel) (pa_cons (pe_lock (pe_lc (own := [("key", 7)]) (g := (gName 7)) (tt := tYes) (by rfl) nd (pi_keys (pv 2)) (blkOk_by (own := [("key", 7)]) (N := N__law_due) (sc := defScope s__law_due) (by decide +kernel)) (fun _ _ _ _ _ => pg_name (i := 7) nd rfl (.inl rfl)) (fun _ _ _ _ _ => pts_nil) (fun _ _ _ _ _ => (pe_dget hu (pv 2) (pv 7) (fun _ _ => rfl))))) pa_nil)) pa_nil)))
      (pss_one (ps_ret (pe_tup (pa_cons (pv 6) (pa_cons (pe_ifExp (pt_cmpR op_isN (pv 0) pe_non (nomark _)) pe_non (pe_call GP (hr.mono (by omega)) (by rfl) T.g_law_pair T.f_law_pair.kp T.n_law_pair .nil pass0 (pa_cons (pe_ix ix_tup (pv 0) pe_int (fun _ _ => rfl)) (pa_cons (pe_ix ix_tup (pv 0) pe_int (fun _ _ => rfl)) pa_nil)))) pa_nil)))))))), ?_⟩
  intro fd nfd
  have s1 : Same H (upd H fd (.dK [])) := same_put nfd
  have lx := hxs.length
  refine ⟨_, rfl, a, rfl, ⟨_, s1.seq ha⟩, for_list (K := K) (a := a) (xs := xs) (fun i σ G => Same H G ∧ ∃ kvs, G fd = some (.dK kvs) ∧ KpD K G (ds.take i) kvs ∧ kvs.length ≤ i ∧ ∃ y3 y4 y5, σ = [some x, some (.ref a), some (.ref fd), y3, y4, y5, none, none]) ⟨s1, [], upd_same, by rw [List.take_zero]; exact KpD.nil, Nat.le_refl _, none, none, none, rfl⟩ (fun i σ G _ h => h.1.seq ha) ?_ ?_⟩
  · rintro i y σ G hi ⟨sG, kvs, ef, kp, lk, y3, y4, y5, rfl⟩
    have lti : i < ds.length := by rw [← lx]; exact (List.getElem?_eq_some_iff.mp hi).1
    have gd := List.getElem?_eq_getElem lti
    obtain ⟨v2, hv2, dv⟩ := hxs.get gd
    rw [hi] at hv2
    cases hv2
    have mi := List.getElem_mem lti
    obtain ⟨ta, tb, eab, wa, wb⟩ := C.c _ mi
    rw [eab] at dv gd mi
    have ma : ta ∈ sidesD ds := List.mem_flatMap.mpr ⟨_, mi, by simp [sidesOf]⟩
    have mb : tb ∈ sidesD ds := List.mem_flatMap.mpr ⟨_, mi, by simp [sidesOf]⟩
    have et : ds.take (i + 1) = ds.take i ++ [.tuple [ta, tb]] := by rw [List.take_add_one, gd]; rfl
    obtain ⟨q0, u, v3, rfl, hq0, du, dv3⟩ := dx_couple (dv.up sG)
    refine ⟨q0, _, rfl, SqT.of hq0, rfl, _, _, rfl, _, _, rfl, rfl, ?_⟩
    refine ⟨_, rfl, _, rfl, ta, tb, du.dp (lay_formed ta wa.f).2, dv3.dp (lay_formed tb wb.f).2, (lay_formed ta wa.f).1, (lay_formed tb wb.f).1, by have := dps ta ma; omega, _, rfl, ?_⟩
    cases he : PyData.eqv ta tb with
    | true =>
      have e : ta = tb := (eqv_formed ta tb wa.f wb.f).mp he
      refine iteF ⟨sG, kvs, ef, ?_, Nat.le_succ_of_le lk, _, _, _, rfl⟩
      rw [et]
      exact kp.skip (by rw [e])
    | false =>
      have ne : ta ≠ tb := fun z => by
        rw [(eqv_formed ta tb wa.f wb.f).mpr z] at he
        cases he
      refine iteT ⟨_, rfl, _, rfl, u, v3, ta, tb, rfl, du, dv3, wa.f, wb.f, by have := dps ta ma; omega, fun z G1 t1 dz => ?_⟩
      obtain ⟨c, d, ec, lcd, ecd⟩ := ordP_tx wa.f wb.f (C.two ma mb) ne
      rw [ec] at dz
      obtain ⟨p5, u5, v5, rfl, hp5, du5, dv5⟩ := dx_couple dz
      have fcd : (formedD c = true ∧ c.depth ≤ 6) ∧ formedD d = true ∧ d.depth ≤ 6 := by
        rcases ecd with ⟨rfl, rfl⟩ | ⟨rfl, rfl⟩
        · exact ⟨⟨wa.f, dps _ ma⟩, wb.f, dps _ mb⟩
        · exact ⟨⟨wb.f, dps _ mb⟩, wa.f, dps _ ma⟩
      refine ⟨_, rfl, _, rfl, key_rd rfl hp5 du5 dv5 fcd.1.1 fcd.2.1 fcd.1.2 fcd.2.2 fun G2 t2 => ?_⟩
      have ef2 := t2 _ _ (t1 _ _ ef)
      have sG2 := sG.trans (t1.trans t2)
      have tf : Tups G2 (upd G2 fd (.dK (putK kvs (.inr (keyT c d)) (.ref p5)))) := fun b us hb => by
        rw [upd_ne (ne_of hb ef2 (fun e => nomatch e))]
        exact hb
      refine ⟨fd, _, rfl, DPut.k (k := .inr (keyT c d)) ef2 (small1000 (by omega)), fun b o hb => ?_, _, upd_same, ?_, ?_, _, _, _, rfl⟩
      · rw [upd_ne (ne_of_none hb nfd)]
        exact sG2 _ _ hb
      · rw [et]
        refine KpD.put (kp.ts (C.take i) ((Tups.of (t1.trans t2)).trans tf)) (Dx.ts tf _ _ (pure_two fcd.1.1 fcd.2.1) (dz.up t2)) lcd ?_
        rcases ecd with ⟨rfl, rfl⟩ | ⟨rfl, rfl⟩
        · exact .inl rfl
        · exact .inr rfl
      · have := length_putK kvs (.inr (keyT c d) : Key) (.ref p5)
        omega
  · rintro σ G ⟨sG, kvs, ef, kp, lk, y3, y4, y5, rfl⟩
    rw [lx, List.take_length] at kp
    refine asg_sorted (K := K) (i := 2) (j := 7) rfl (by decide) (by show 7 < 8; decide) ef kp C (by omega) (fun y hy => by have := dps y hy; omega) fun t us L H2 s2 eT dL pL => ?_
    have sA := sG.trans s2
    refine ⟨_, rfl, _, rfl, rfl, _, rfl, ?_⟩
    rcases ht with rfl | ⟨ta, tb, rfl, fa, fb, dpa⟩
    · cases hx
      refine iteT ⟨by show 2 ≤ sizeLine; decide, fun p2 np2 => ?_⟩
      have s9 := same_put (o := .tup [.ref t, .non]) np2
      exact q _ _ _ (sA.trans s9) (.tup upd_same (.cons (.tup (s9 _ _ eT) (dL.up s9)) (.cons .non .nil))) ⟨L, pL, .inl ⟨rfl, rfl⟩⟩
    · obtain ⟨q0, u, v3, rfl, hq0, du, dv3⟩ := dx_couple hx
      refine iteF ⟨_, rfl, q0, _, 0, u, rfl, rfl, SqT.of (sA _ _ hq0), atI_nat (j := 0) rfl, _, rfl, q0, _, 1, v3, rfl, rfl, SqT.of (sA _ _ hq0), atI_nat (j := 1) rfl, u, v3, ta, tb, rfl, du.up sA, dv3.up sA, fa, fb, by omega, fun z H3 s3 dz => ⟨by show 2 ≤ sizeLine; decide, fun p2 np2 => ?_⟩⟩
      have s9 := same_put (o := .tup [.ref t, z]) np2
      exact q _ _ _ (sA.trans (s3.trans s9)) (.tup upd_same (.cons (.tup (s9 _ _ (s3 _ _ eT)) (dL.up (s3.trans s9))) (.cons (dz.up s9) .nil))) ⟨L, pL, .inr ⟨ta, tb, rfl, rfl⟩⟩
end
end K12
/-! _law_drawn_fact. -/
namespace K12
open PySem PySem.Spec PyProof.Rows L2 Kx
theorem rows_in {rs : List NK} {n : Nat} {a b : PyData} (ha : Tm rs n a) (hb : Tm rs n b) (F : Func rs) : Func (rowsD a ++ rowsD b) := F.sub fun p hp => (List.mem_append.mp hp).elim (ha.rw p) (hb.rw p)
theorem Pr.tx {rs : List NK} {n : Nat} {a b : PyData} (h : Pr rs n (.tuple [a, b])) (F : Func rs) : tx a < tx b ∧ Tm rs n a ∧ Tm rs n b := by
  obtain ⟨a', b', e, ha, hb, l⟩ := h.ex
  simp only [PyData.tuple.injEq, List.cons.injEq, and_true] at e
  obtain ⟨rfl, rfl⟩ := e
  exact ⟨(tx_lt ha.fm hb.fm (rows_in ha hb F)).mpr l, ha, hb⟩
theorem wr_tm {rs : List NK} {n : Nat} {d : PyData} (h : Tm rs n d) (l : n ≤ 6) : Wr d := by
  have b6 : big 6 = 1457 := rfl
  exact wr_of h.fm (by have := sz_formed d 6 h.fm (Nat.le_trans h.dp l); omega)
/-- couples over rs -/
def Cp (rs : List NK) (n : Nat) (z : PyData) : Prop := ∃ a b, z = .tuple [a, b] ∧ Tm rs n a ∧ Tm rs n b
theorem Pr.cp {rs : List NK} {n : Nat} {z : PyData} (h : Pr rs n z) : Cp rs n z := by
  obtain ⟨a, b, e, ha, hb, _⟩ := h.ex
  exact ⟨a, b, e, ha, hb⟩
theorem cp_side {rs : List NK} {n : Nat} {ds : List PyData} (h : ∀ z, z ∈ ds → Cp rs n z) : ∀ x, x ∈ sidesD ds → Tm rs n x := fun x hx => by
  obtain ⟨d, hd, hx⟩ := List.mem_flatMap.mp hx
  obtain ⟨a, b, rfl, ha, hb⟩ := h d hd
  simp only [sidesOf, List.mem_cons, List.not_mem_nil, or_false] at hx
  rcases hx with rfl | rfl
  · exact ha
  · exact hb
theorem cp_cns {rs : List NK} {n : Nat} {ds : List PyData} (h : ∀ z, z ∈ ds → Cp rs n z) (l : n ≤ 6) (F : Func rs) : Cns ds := by
  refine ⟨fun d hd => ?_, F.sub fun p hp => ?_⟩
  · obtain ⟨a, b, e, ha, hb⟩ := h d hd
    exact ⟨a, b, e, wr_tm ha l, wr_tm hb l⟩
  · obtain ⟨x, hx, hp⟩ := rows_mem hp
    exact (cp_side h x hx).rw p hp
/-- a fact over rs -/
structure Fa (rs : List NK) (n m : Nat) (L : List PyData) (c : PyData) : Prop where
  ps : ∀ z, z ∈ L → Pr rs n z
  srt : L.Pairwise ltR
  c : c = .none ∨ Pr rs n c
  len : L.length ≤ m
theorem Fa.all {rs : List NK} {n m : Nat} {L : List PyData} {c : PyData} (h : Fa rs n m L c) : ∀ z, z ∈ L ++ endOf c → Pr rs n z := fun z hz => by
  rcases List.mem_append.mp hz with hz | hz
  · exact h.ps z hz
  · rcases h.c with rfl | hc
    · cases hz
    · obtain ⟨a, b, rfl, _⟩ := hc.ex
      have hz : z ∈ [PyData.tuple [a, b]] := hz
      rw [List.mem_singleton.mp hz]
      exact hc
theorem couples_of {ds : List PyData} (C : Cns ds) : couplesD ds = true := by
  have h1 : ds.all coupleD = true := List.all_eq_true.mpr fun d hd => by
    obtain ⟨a, b, rfl, _⟩ := C.c d hd
    rfl
  have h2 : formedAll (sidesD ds) = true := by
    have : ∀ l : List PyData, (∀ x, x ∈ l → formedD x = true) → formedAll l = true := fun l => by
      induction l with
      | nil => intro _; rfl
      | cons x l ih => intro h; rw [formedAll, h x List.mem_cons_self, ih fun y hy => h y (List.mem_cons_of_mem _ hy)]; rfl
    refine this _ fun x hx => ?_
    obtain ⟨d, hd, hx⟩ := List.mem_flatMap.mp hx
    obtain ⟨a, b, rfl, wa, wb⟩ := C.c d hd
    simp only [sidesOf, List.mem_cons, List.not_mem_nil, or_false] at hx
    rcases hx with rfl | rfl
    · exact wa.f
    · exact wb.f
  simp [couplesD, jointD, h1, h2, C.f]
theorem keyC_lt {ds : List PyData} (C : Cns ds) {a b c d : PyData} (h1 : Nz ds a b) (h2 : Nz ds c d) : ltR (keyC (.tuple [a, b])) (keyC (.tuple [c, d])) ↔ ltR (.tuple [a, b]) (.tuple [c, d]) := key_lt C h1 h2
theorem chain_of : ∀ {ks : List PyData}, ks.Pairwise ltR → chainD ks = true
  | [], _ => rfl
  | [x], _ => rfl
  | x :: y :: ks, h => by
    rw [List.pairwise_cons] at h
    have ih := chain_of h.2
    have e : chainD (x :: y :: ks) = (PySem.W.dataLt x y && chainD (y :: ks)) := by
      simp [chainD]
    rw [e, ih, Bool.and_true]
    exact h.1 y List.mem_cons_self
theorem Fa.fact {rs : List NK} {n m : Nat} {L : List PyData} {c : PyData} (h : Fa rs n m L c) (l : n ≤ 6) (F : Func rs) : factD (.tuple [.tuple L, c]) = true := by
  have C := cp_cns (fun z hz => (h.all z hz).cp) l F
  have ord : (L ++ endOf c).all ordC = true := List.all_eq_true.mpr fun z hz => by
    obtain ⟨a, b, rfl, ha, hb, lt⟩ := (h.all z hz).ex
    exact decide_eq_true ((tx_lt ha.fm hb.fm (rows_in ha hb F)).mpr lt)
  have ch : chainD (L.map keyC) = true := by
    refine chain_of ?_
    rw [List.pairwise_map]
    refine List.Pairwise.imp_of_mem (fun {x y} hx hy lt => ?_) h.srt
    obtain ⟨a, b, rfl, ha, hb, l1⟩ := (h.ps x hx).ex
    obtain ⟨c', d, rfl, hc, hd, l2⟩ := (h.ps y hy).ex
    exact (keyC_lt C ⟨(tx_lt ha.fm hb.fm (rows_in ha hb F)).mpr l1, .inl (List.mem_append_left _ hx)⟩ ⟨(tx_lt hc.fm hd.fm (rows_in hc hd F)).mpr l2, .inl (List.mem_append_left _ hy)⟩).mpr lt
  show (couplesD (L ++ endOf c) && ((L ++ endOf c).all ordC && chainD (L.map keyC))) = true
  rw [couples_of C, ord, ch]
  rfl
mutual
theorem short_formed : ∀ (d : PyData), formedD d = true → shortD d = true
  | .tuple (a :: ds), h => by
    obtain ⟨x, ds', e, _, hx, hf⟩ := formed_shape h
    injection e with e
    injection e with e1 e2
    subst e1 e2
    have : x.length ≤ 1000 := by
      simp only [isNm, Bool.and_eq_true, decide_eq_true_eq] at hx
      omega
    simp [shortD, shortAll, this, short_formedAll ds hf]
  | .tuple [], h => by cases h
  | .none, h => by cases h
  | .bool _, h => by cases h
  | .int _, h => by cases h
  | .str _, h => by cases h
  | .list _, h => by cases h
  | .dict _, h => by cases h
theorem short_formedAll : ∀ (ds : List PyData), formedAll ds = true → shortAll ds = true
  | [], _ => rfl
  | d :: ds, h => by
    rw [formedAll, Bool.and_eq_true] at h
    rw [shortAll, short_formed d h.1, short_formedAll ds h.2]
    rfl
end
theorem cp_size {rs : List NK} {n : Nat} {ds : List PyData} (h : ∀ z, z ∈ ds → Cp rs n z) : shortAll ds = true ∧ szAll ds ≤ ds.length * (2 * big n + 1) := by
  induction ds with
  | nil => exact ⟨rfl, by simp [szAll]⟩
  | cons z ds ih =>
    obtain ⟨i1, i2⟩ := ih fun y hy => h y (List.mem_cons_of_mem _ hy)
    obtain ⟨a, b, rfl, ha, hb⟩ := h z List.mem_cons_self
    have za := sz_formed a n ha.fm ha.dp
    have zb := sz_formed b n hb.fm hb.dp
    refine ⟨by simp [shortAll, shortD, short_formed a ha.fm, short_formed b hb.fm, i1], ?_⟩
    rw [szAll, List.length_cons, Nat.add_mul, Nat.one_mul]
    simp only [szD, szAll]
    omega
theorem Fa.fz {rs : List NK} {n m : Nat} {L : List PyData} {c : PyData} {K : PySem.W.Frag} {H : Hp} {x : V} (h : Fa rs n m L c) (l : n ≤ 6) (sz : (m + 1) * (2 * big n + 1) ≤ 9000) (hm : m ≤ 100) (dx : Dx K H x (.tuple [.tuple L, c])) : Fz K H x (.tuple [.tuple L, c]) := by
  obtain ⟨s1, z1⟩ := cp_size fun z hz => (h.all z hz).cp
  have le : (endOf c).length ≤ 1 := by cases c <;> simp [endOf]
  have z2 : (L ++ endOf c).length * (2 * big n + 1) ≤ (m + 1) * (2 * big n + 1) := Nat.mul_le_mul_right _ (by rw [List.length_append]; have := h.len; omega)
  rw [szAll_append] at z1
  rw [shortAll_append, Bool.and_eq_true] at s1
  have ec : szD c ≤ szAll (endOf c) + 1 ∧ shortD c = true := by
    rcases h.c with rfl | hc
    · exact ⟨by simp [szD, endOf, szAll], rfl⟩
    · obtain ⟨a, b, rfl, _⟩ := hc.ex
      have this : shortAll [PyData.tuple [a, b]] = true := s1.2
      simp only [shortAll, Bool.and_true] at this
      exact ⟨by show _ ≤ szAll [PyData.tuple [a, b]] + 1; simp [szAll], this⟩
  refine ⟨dx, ?_, ?_, fun ps e he => ?_⟩
  · simp [shortD, shortAll, s1.1, ec.2]
  · simp only [szD, szAll]
    omega
  · simp only [PyData.tuple.injEq, List.cons.injEq, and_true] at he
    rw [← he.1]
    have := h.len
    omega
theorem cp_pure {rs : List NK} {n : Nat} {ds : List PyData} (h : ∀ z, z ∈ ds → Cp rs n z) : pureAll ds = true := by
  induction ds with
  | nil => rfl
  | cons z ds ih =>
    obtain ⟨a, b, rfl, ha, hb⟩ := h z List.mem_cons_self
    rw [pureAll, pure_two ha.fm hb.fm, ih fun y hy => h y (List.mem_cons_of_mem _ hy)]
    rfl
theorem lay_cp {rs : List NK} {n : Nat} {ds : List PyData} (h : ∀ z, z ∈ ds → Cp rs n z) : PyData.canLayAll0 ds = true ∧ PyData.hasDictAll ds = false ∧ PyData.depthAll ds ≤ n + 1 := by
  induction ds with
  | nil => exact ⟨rfl, rfl, by simp [PyData.depthAll]⟩
  | cons z ds ih =>
    obtain ⟨i1, i2, i3⟩ := ih fun y hy => h y (List.mem_cons_of_mem _ hy)
    obtain ⟨a, b, rfl, ha, hb⟩ := h z List.mem_cons_self
    obtain ⟨a1, a2⟩ := lay_formed a ha.fm
    obtain ⟨b1, b2⟩ := lay_formed b hb.fm
    have da := ha.dp
    have db := hb.dp
    refine ⟨by simp [PyData.canLayAll0, PyData.canLay0, a1, b1, i1], by simp [PyData.hasDictAll, PyData.hasDict, a2, b2, i2], ?_⟩
    simp only [PyData.depthAll, PyData.depth]
    omega
section
variable {P : Program} {w : World} {K : PySem.W.Frag} {mg : Str → Option Value} {base : Heap}
def spDf (K : PySem.W.Frag) (n : Nat) : Sp := fun vs H Q _ => ∃ (a b : Addr) (most m : Nat) (zs : List Rw), vs = [.ref a, .ref b, .int (n : Int), .int (most : Int)] ∧ 0 < n ∧ n ≤ 3 ∧ most ≤ 3 ∧ Dice H a m ∧ m + 1300 < cap ∧ RowsIn H b zs ∧ b ≠ a ∧ Good (zs.map Prod.snd) ∧
  ∀ (x : V) (L : List PyData) (c : PyData) H', But a H H' → Dice H' a (m + 1300) → Dx K H' x (.tuple [.tuple L, c]) → Fa (zs.map Prod.snd) n 3 L c → Q x H'
theorem ok_df (T : Tx K mg) (n : Nat) (n3 : n ≤ 3) : FnOk P w K mg base CX0 8 T.a_law_drawn_fact T.d_law_drawn_fact ["dice", "names", "deep", "most"] (spDf K n) := by
  have nd := sc__law_drawn_fact.nd
  have GR := ok_roll (P := P) (w := w) (base := base) T
  have GD := (ok_dp (P := P) (w := w) (base := base) T n)
  have GT := ok_txt (P := P) (w := w) (base := base) T 6
  refine T.f_law_drawn_fact.ok sc__law_drawn_fact (fun vs H Q E h => ?_) (fun cdv A outer s H vs Q E hr h => ?_)
  · obtain ⟨a, b, most, m, zs, rfl, _⟩ := h
    rfl
  obtain ⟨a, b, most, m, zs, rfl, n0, _, ms, hd, hm, ri, nba, gd, q⟩ := h
  have hu := hu_of hr
  refine ⟨_, (pss_cons (ps_set (i := 4) nd rfl (.inr rfl) pe_dnewK)
      (pss_cons (ps_for PassesOwn.never rfl (pi_range1 (by rfl) T.b_range (pa_cons (pe_call GR (hr.mono (by omega)) (by rfl) T.g_law_roll T.f_law_roll.kp T.n_law_roll .nil pass0 (pa_cons (pv 0) (pa_cons (pe_op op_add (pv 3) pe_int) pa_nil))) pa_nil)) (pg_name (i := 5) nd rfl (.inl rfl)) (pss_cons (ps_set (i := 6) nd rfl (.inl rfl) (pe_call GD (hr.mono (by omega)) (by rfl) T.g_law_drawn_pair T.f_law_drawn_pair.kp T.n_law_drawn_pair .nil pass0 (pa_cons (pv 0) (pa_cons (pv 1) (pa_cons (pv 2) pa_nil)))))
      (pss_one (ps_asg (pv 6) (pg_sub (pv 4) (pe_op op_add_str (pe_op op_add_str (pe_call GT (hr.mono (by omega)) (by rfl) T.g_law_text T.f_law_text.kp T.n_law_text .nil pass0 (pa_cons (pe_ix ix_tup (pv 6) pe_int (fun _ _ => rfl)) pa_nil)) pe_str) (pe_call GT (hr.mono (by omega)) (by rfl) T.g_law_text T.f_law_text.kp T.n_law_text .nil pass0 (pa_cons (pe_ix ix_tup (pv 6) pe_int (fun _ _ => rfl)) pa_nil))) (set_dict hu))))))
      (pss_cons (ps_set (i := 7) nd rfl (.inl rfl) (pe_callTy call_tuple_of (by rfl) T.b_tuple (by decide +kernel) (pa_cons (pe_callB (cr_sortedD hr.units) (by rfl) T.b_sorted (by decide +kernel) (pa_cons (pe_lock (pe_lc (own := [("text", 8)]) (g := (gName 8)) (tt := tYes) (by rfl) nd (pi_keys (pv 4)) (blkOk_by (own := [("text", 8)]) (N := N__law_drawn_fact) (sc := defScope s__law_drawn_fact) (by decide +kernel)) (fun _ _ _ _ _ => pg_name (i := 8) nd rfl (.inl rfl)) (fun _ _ _ _ _ => pts_nil) (fun _ _ _ _ _ => (pe_dget hu (pv 4) (pv 8) (fun _ _ => rfl))))) pa_nil)) pa_nil)))
      (pss_cons (ps_if (PW.pt (pw_and (pt_cmpR (op_neF (room200 hr)) (pv 7) (pe_tup pa_nil) (nomark _)) (pw_and1 (pt_cmpR op_eq (pe_call GR (hr.mono (by omega)) (by rfl) T.g_law_roll T.f_law_roll.kp T.n_law_roll .nil pass0 (pa_cons (pv 0) (pa_cons pe_int pa_nil))) pe_int (nomark _))))) (pss_one (ps_ret (pe_tup (pa_cons (pv 7) (pa_cons pe_non pa_nil))))) pss_nil)
      (pss_one (ps_ret (pe_tup (pa_cons (pv 7) (pa_cons (pe_call GD (hr.mono (by omega)) (by rfl) T.g_law_drawn_pair T.f_law_drawn_pair.kp T.n_law_drawn_pair .nil pass0 (pa_cons (pv 0) (pa_cons (pv 1) (pa_cons (pv 2) pa_nil)))) pa_nil))))))))), ?_⟩
  intro fd nfd
  have s1 : Same H (upd H fd (.dK [])) := same_put nfd
  have nfa := hd.ne nfd
  have hd1 := hd.up s1
  have F := gd.fn
  refine ⟨_, rfl, _, rfl, _, _, rfl, rfl, a, m, (most : Int) + 1, rfl, hd1, by unfold cap at hm ⊢; omega, by omega, by omega, fun r H1 b1 dd1 r0 r1 => ?_⟩
  obtain ⟨k, rfl⟩ := Int.eq_ofNat_of_zero_le r0
  have k3 : k ≤ 3 := by omega
  refine ⟨(k : Int), rfl, by omega, by omega, ?_⟩
  rw [Int.toNat_natCast]
  refine for_range (fun i σ G => But a H G ∧ Dice G a (m + 1 + 320 * i) ∧ RowsIn G b zs ∧ ∃ ds kvs, G fd = some (.dK kvs) ∧ (∀ z, z ∈ ds → Pr (zs.map Prod.snd) n z) ∧ ds.length = i ∧ KpD K G ds kvs ∧ kvs.length ≤ i ∧ ∃ y5 y6, σ = [some (.ref a), some (.ref b), some (.int (n : Int)), some (.int (most : Int)), some (.ref fd), y5, y6, none, none])
    ⟨(But.of s1).trans b1, dd1, (ri.up s1).but b1 hd1 nba, [], [], b1 _ _ upd_same nfa, (fun z hz => by cases hz), rfl, KpD.nil, Nat.le_refl _, none, none, rfl⟩ ?_ ?_
  · rintro i σ G hi ⟨bG, dG, rG, ds, kvs, ef, pr, ld, kp, lk, y5, y6, rfl⟩
    refine ⟨_, rfl, _, rfl, _, rfl, a, b, m + 1 + 320 * i, zs, rfl, n0, n3, dG, by unfold cap at hm ⊢; omega, rG, nba, gd, fun x d G1 b2 dd2 dx hp => ?_⟩
    obtain ⟨c, e, rfl, tc, te, lt⟩ := hp.ex
    obtain ⟨p5, u5, v5, rfl, hp5, du5, dv5⟩ := dx_couple dx
    refine ⟨_, rfl, _, rfl, key_rd rfl hp5 du5 dv5 tc.fm te.fm (by have := tc.dp; omega) (by have := te.dp; omega) fun G2 t2 => ?_⟩
    have ef2 := t2 _ _ (b2 _ _ ef nfa)
    have tb : Tups G G2 := (Tups.but b2 dG).trans (Tups.of t2)
    have tf : Tups G2 (upd G2 fd (.dK (putK kvs (.inr (keyT c e)) (.ref p5)))) := fun z us hz => by
      rw [upd_ne (ne_of hz ef2 (fun e => nomatch e))]
      exact hz
    have bG3 : But a H (upd G2 fd (.dK (putK kvs (.inr (keyT c e)) (.ref p5)))) := (bG.trans (b2.trans (But.of t2))).put nfd
    refine ⟨fd, _, rfl, DPut.k (k := .inr (keyT c e)) ef2 (small1000 (by omega)), bG3, ((dd2.up t2).put nfa).le (by omega), ?_, ds ++ [.tuple [c, e]], _, upd_same, fun z hz => ?_, by rw [List.length_append, ld]; rfl, ?_, ?_, _, _, rfl⟩
    · have r2 := (rG.but b2 dG nba).up t2
      refine ⟨by rw [upd_ne (ne_of r2.1 ef2 (fun e => nomatch e))]; exact r2.1, fun z hz => ?_⟩
      rw [upd_ne (ne_of (r2.2 z hz) ef2 (fun e => nomatch e))]
      exact r2.2 z hz
    · rcases List.mem_append.mp hz with hz | hz
      · exact pr z hz
      · rw [List.mem_singleton.mp hz]
        exact hp
    · have C := cp_cns (fun z hz => (pr z hz).cp) (by omega) F
      exact KpD.put (kp.ts C (tb.trans tf)) (Dx.ts tf _ _ (pure_two tc.fm te.fm) (dx.up t2)) ((tx_lt tc.fm te.fm (rows_in tc te F)).mpr lt) (.inl rfl)
    · have := length_putK kvs (.inr (keyT c e) : Key) (.ref p5)
      omega
  · rintro σ G ⟨bG, dG, rG, ds, kvs, ef, pr, ld, kp, lk, y5, y6, rfl⟩
    have C := cp_cns (fun z hz => (pr z hz).cp) (by omega) F
    refine asg_sorted (K := K) (i := 4) (j := 8) rfl (by decide) (by show 8 < 9; decide) ef kp C (by omega) (fun y hy => by have := (cp_side (fun z hz => (pr z hz).cp) y hy).dp; omega) fun t us L H2 s2 eT dL pL => ?_
    have prL : ∀ z, z ∈ L → Pr (zs.map Prod.snd) n z := fun z hz => by
      obtain ⟨c, e, rfl, l, m⟩ := (pL.mem z).mp hz
      rcases m with m | m
      · exact pr _ m
      · have := ((pr _ m).tx F).1
        exact absurd (List.lt_trans l this) (List.lt_irrefl _)
    have lL : L.length ≤ 3 := by
      have := pL.len
      omega
    have dG2 := dG.up s2
    have bG2 := bG.trans (But.of s2)
    have rG2 := rG.up s2
    obtain ⟨y1, y2, y3⟩ := lay_cp fun z hz => (prL z hz).cp
    have last : ∀ G3, But a H G3 → Dice G3 a (m + 970) → RowsIn G3 b zs → G3 t = some (.tup us) → DxAll K G3 us L → tTup (tCons (tVar 7) (tCons (tCall (spDp K n) [] E0 (tCons (tVar 0) (tCons (tVar 1) (tCons (tVar 2) tNil)))) tNil)) [some (.ref a), some (.ref b), some (.int (n : Int)), some (.int (most : Int)), some (.ref fd), y5, y6, some (.ref t), none] G3 Q := fun G3 bG3 dG3 rG3 eT3 dL3 => by
      refine ⟨_, rfl, _, rfl, _, rfl, _, rfl, a, b, m + 970, zs, rfl, n0, n3, dG3, by unfold cap at hm ⊢; omega, rG3, nba, gd, fun x d G4 b4 dd4 dx hp => ⟨by show 2 ≤ sizeLine; decide, fun p np => ?_⟩⟩
      have sp := same_put (o := .tup [.ref t, x]) np
      have tA := (Tups.but b4 dG3).trans (Tups.of sp)
      have pL2 : pureAll L = true := cp_pure fun z hz => (prL z hz).cp
      refine q _ L d _ (bG3.trans (b4.trans (But.of sp))) ((dd4.up sp).le (by omega)) (.tup upd_same (.cons (.tup (tA _ _ eT3) (DxAll.ts tA _ _ pL2 dL3)) (.cons (dx.up sp) .nil))) ⟨prL, pL.srt, .inr hp, lL⟩
    refine ⟨_, rfl, by show 0 ≤ sizeLine; decide, fun e0 ne0 => ?_⟩
    have se := same_put (o := .tup []) ne0
    have sF := s2.trans se
    have eT2 := se _ _ eT
    have dL2 := dL.up se
    have bF := bG2.trans (But.of se)
    have dF := dG2.up se
    have rF := rG2.up se
    refine ⟨.tuple L, .tuple [], .tup (.inl (.inl eT2)) (DxAll.dp y2 dL2), .tup (.inl (.inl upd_same)) .nil, by simpa [PyData.canLay0] using y1, rfl, by simp only [PyData.depth]; omega, _, rfl, ?_⟩
    have dF2 : Dice (upd H2 e0 (.tup [])) a (m + 961 + 0) := dF.le (by omega)
    cases L with
    | nil =>
      refine iteF (iteF ?_)
      exact last _ bF (dF.le (by omega)) rF eT2 dL2
    | cons z L =>
      refine iteT ⟨_, rfl, a, m + 961, 6, rfl, dF2, by unfold cap at hm ⊢; omega, by decide, by decide, fun r8 G3 b3 dd3 r80 r81 => ⟨rfl, _, rfl, ite2 (fun e8 => ?_) (fun e8 => ?_)⟩⟩
      · refine ⟨_, rfl, by show 2 ≤ sizeLine; decide, fun p np => ?_⟩
        have sp := same_put (o := .tup [.ref t, .non]) np
        have tA := (Tups.but b3 dF).trans (Tups.of sp)
        refine q _ (z :: L) .none _ (bF.trans (b3.trans (But.of sp))) ((dd3.up sp).le (by omega)) (.tup upd_same (.cons (.tup (tA _ _ eT2) (DxAll.ts tA _ _ (cp_pure fun y hy => (prL y hy).cp) dL2)) (.cons .non .nil))) ⟨prL, pL.srt, .inl rfl, lL⟩
      · have nta : t ≠ a := fun e => by
          obtain ⟨_, _, _, hz, _⟩ := dF
          rw [e] at eT2
          rw [eT2] at hz
          cases hz
        exact last _ (bF.trans b3) (dd3.le (by omega)) (rF.but b3 dF nba) (b3 _ _ eT2 nta) (DxAll.ts (Tups.but b3 dF) _ _ (cp_pure fun y hy => (prL y hy).cp) dL2)
end
end K12
/-! x in t, x not in t, t a tuple of data. -/
namespace Kx
open PySem PySem.Spec PyProof.Rows L2
section
variable {X : Cx}
def rInT (K : PySem.W.Frag) : R2 := fun x y H Q => ∃ d ds, Dp K H x d ∧ Dp K H y (.tuple ds) ∧ d.canLay0 = true ∧ PyData.canLayAll0 ds = true ∧ d.depth ≤ 64 ∧ Q (.bl (ds.any fun z => PyData.eqv z d)) H
def rNotInT (K : PySem.W.Frag) : R2 := fun x y H Q => ∃ d ds, Dp K H x d ∧ Dp K H y (.tuple ds) ∧ d.canLay0 = true ∧ PyData.canLayAll0 ds = true ∧ d.depth ≤ 64 ∧ Q (.bl (!ds.any fun z => PyData.eqv z d)) H
theorem op_inT (hu : X.A.units + 65 < cLine) : OpR X (compareOp .In) (rInT X.K) := by
  intro pins s σ H x y v u Q I rx ry h
  obtain ⟨d, ds, hd, he, sd, se, z, q⟩ := h
  obtain ⟨as, r1⟩ := Dp.reads I d x v hd rx
  obtain ⟨bs, r2⟩ := Dp.reads I (.tuple ds) y u he ry
  exact SeqAt.in_tuple_reads r2 r1 se sd (by have := Nat.min_le_right (PyData.depthAll ds) d.depth; omega) ⟨.bl _, H, I, rfl, q⟩
theorem op_notInT (hu : X.A.units + 65 < cLine) : OpR X (compareOp .NotIn) (rNotInT X.K) := by
  intro pins s σ H x y v u Q I rx ry h
  obtain ⟨d, ds, hd, he, sd, se, z, q⟩ := h
  obtain ⟨as, r1⟩ := Dp.reads I d x v hd rx
  obtain ⟨bs, r2⟩ := Dp.reads I (.tuple ds) y u he ry
  exact SeqAt.notIn_tuple_reads r2 r1 se sd (by have := Nat.min_le_right (PyData.depthAll ds) d.depth; omega) ⟨.bl _, H, I, rfl, q⟩
end
end Kx
/-! _law_second, _law_cut_due. -/
namespace K12
open PySem PySem.Spec PyProof.Rows L2 Kx
section
variable {P : Program} {w : World} {K : PySem.W.Frag} {mg : Str → Option Value} {base : Heap}
/-- an item of a tuple at b -/
def spPickT (K : PySem.W.Frag) : Sp := fun vs H Q _ => ∃ (a b : Addr) (n : Nat) (xs : List V), vs = [.ref a, .ref b] ∧ Dice H a n ∧ n < cap ∧ H b = some (.tup xs) ∧ 0 < xs.length ∧ xs.length < 1000000 ∧ ∀ (i : Nat) (v : V) H', But a H H' → Dice H' a (n + 1) → xs[i]? = some v → Q v H'
theorem ok_pickT (T : Tx K mg) : FnOk P w K mg base CX0 2 T.a_law_pick T.d_law_pick ["dice", "items"] (spPickT K) := by
  have nd := sc__law_pick.nd
  have G := ok_roll (P := P) (w := w) (base := base) T
  refine T.f_law_pick.ok sc__law_pick (fun vs H Q E h => ?_) (fun cdv A outer s H vs Q E hr h => ?_)
  · obtain ⟨a, b, n, xs, rfl, _⟩ := h
    rfl
  · obtain ⟨a, b, n, xs, rfl, hd, hn, hb, l0, l1, q⟩ := h
    have ne : b ≠ a := fun e => by
      obtain ⟨_, _, _, hz, _⟩ := hd
      rw [e] at hb
      rw [hb] at hz
      cases hz
    refine ⟨_, (pss_one (ps_ret (pe_ix ix_tup (pv 1) (pe_call G (hr.mono (by decide)) (by rfl) T.g_law_roll T.f_law_roll.kp T.n_law_roll .nil pass0 (pa_cons (pv 0) (pa_cons (pe_callB call_len_seq (by rfl) T.b_len (by decide +kernel) (pa_cons (pv 1) pa_nil)) pa_nil))) (fun _ _ => rfl)))), ?_⟩
    refine ⟨_, rfl, _, rfl, _, rfl, b, xs, rfl, .inr (SqT.of hb), a, n, _, rfl, hd, hn, by omega, by omega, fun r H' bt hd' r0 r1 => ?_⟩
    have lt : r.toNat < xs.length := by omega
    have e : xs[r.toNat]? = some xs[r.toNat] := List.getElem?_eq_getElem lt
    exact ⟨b, xs, r, _, rfl, rfl, SqT.of (bt _ _ hb ne), L2.at_of (by omega) e, q _ _ _ bt hd' e⟩
theorem ordP_pr {rs : List NK} {n : Nat} {a b : PyData} (h : Pr rs n (.tuple [a, b])) : ordP a b = .tuple [a, b] := by
  obtain ⟨a', b', e, _, _, l⟩ := h.ex
  simp only [PyData.tuple.injEq, List.cons.injEq, and_true] at e
  obtain ⟨rfl, rfl⟩ := e
  rw [ordP, if_pos l]
/-- of pairs and a pair, the law's own fact -/
theorem due_fa {rs : List NK} {n : Nat} {ds : List PyData} {told r : PyData} (h : DueD ds told r) (F : Func rs) (pr : ∀ z, z ∈ ds → Pr rs n z) (pt : told = .none ∨ Pr rs n told) : ∃ L, Prs ds L ∧ r = .tuple [.tuple L, told] ∧ Fa rs n ds.length L told := by
  obtain ⟨L, p, h⟩ := h
  have pL : ∀ z, z ∈ L → Pr rs n z := fun z hz => by
    obtain ⟨c, e, rfl, l, m⟩ := (p.mem z).mp hz
    rcases m with m | m
    · exact pr _ m
    · exact absurd (List.lt_trans l ((pr _ m).tx F).1) (List.lt_irrefl _)
  refine ⟨L, p, ?_, pL, p.srt, pt, p.len⟩
  rcases h with ⟨e1, e2⟩ | ⟨a, b, e1, e2⟩
  · rw [e2, e1]
  · rcases pt with z | z
    · rw [e1] at z; cases z
    · rw [e1] at z ⊢
      rw [e2, ordP_pr z]
theorem pr_told {rs : List NK} {n : Nat} {c : PyData} (h : c = .none ∨ Pr rs n c) (l : n ≤ 6) : c = .none ∨ ∃ a b, c = .tuple [a, b] ∧ formedD a = true ∧ formedD b = true ∧ a.depth ≤ 6 := h.imp id fun h => by
  obtain ⟨a, b, e, ha, hb, _⟩ := h.ex
  exact ⟨a, b, e, ha.fm, hb.fm, Nat.le_trans ha.dp l⟩
def spSe (K : PySem.W.Frag) : Sp := fun vs H Q _ => ∃ (a b : Addr) (x : V) (L : List PyData) (c : PyData) (m : Nat) (zs : List Rw), vs = [.ref a, .ref b, x] ∧ Dice H a m ∧ m + 1310 < cap ∧ RowsIn H b zs ∧ b ≠ a ∧ Good (zs.map Prod.snd) ∧ Dx K H x (.tuple [.tuple L, c]) ∧ Fa (zs.map Prod.snd) 2 5 L c ∧
  ∀ (y : V) (M : List PyData) (e : PyData) H', But a H H' → Dice H' a (m + 1310) → Dx K H' y (.tuple [.tuple M, e]) → Fa (zs.map Prod.snd) 2 5 M e → Q y H'
theorem fa_pure {rs : List NK} {n m : Nat} {L : List PyData} {c : PyData} (h : Fa rs n m L c) : pureD (.tuple [.tuple L, c]) = true := by
  have p1 := cp_pure fun z hz => (h.ps z hz).cp
  have p2 : pureD c = true := by
    rcases h.c with rfl | hc
    · rfl
    · obtain ⟨a, b, rfl, ha, hb, _⟩ := hc.ex
      exact pure_two ha.fm hb.fm
  simp [pureD, pureAll, p1, p2]
theorem Fa.le {rs : List NK} {n m k : Nat} {L : List PyData} {c : PyData} (h : Fa rs n m L c) (l : m ≤ k) : Fa rs n k L c := ⟨h.ps, h.srt, h.c, Nat.le_trans h.len l⟩
theorem ok_se (T : Tx K mg) : FnOk P w K mg base CX0 10 T.a_law_second T.d_law_second ["dice", "known", "first"] (spSe K) := by
  have nd := sc__law_second.nd
  have GR := ok_roll (P := P) (w := w) (base := base) T
  have GF := ok_df (P := P) (w := w) (base := base) T 2 (by decide)
  have GP := ok_pickT (P := P) (w := w) (base := base) T
  have GD := ok_due (P := P) (w := w) (base := base) T
  refine T.f_law_second.ok sc__law_second (fun vs H Q E h => ?_) (fun cdv A outer s H vs Q E hr h => ?_)
  · obtain ⟨a, b, x, L, c, m, zs, rfl, _⟩ := h
    rfl
  obtain ⟨a, b, x, L, c, m, zs, rfl, hd, hm, ri, nba, gd, dx, fa, q⟩ := h
  unfold cap at hm
  refine ⟨_, (pss_cons (ps_asg (pe_call GF (hr.mono (by omega)) (by rfl) T.g_law_drawn_fact T.f_law_drawn_fact.kp T.n_law_drawn_fact .nil pass0 (pa_cons (pv 0) (pa_cons (pv 1) (pa_cons pe_int (pa_cons pe_int pa_nil))))) (pg_tup rfl (pgs_cons (pg_name (i := 3) nd rfl (.inl rfl)) (pgs_cons (pg_name (i := 4) nd rfl (.inl rfl)) pgs_nil))))
      (C8.pss_cut (ps_set (i := 5) nd rfl (.inl rfl) (pe_ifExp (PW.pt (pw_or (pt_cmpR op_isN (pe_ix ix_tup (pv 2) pe_int (fun _ _ => rfl)) pe_non (nomark _)) (pw_or1 (pt_cmpR op_eq (pe_call GR (hr.mono (by omega)) (by rfl) T.g_law_roll T.f_law_roll.kp T.n_law_roll .nil pass0 (pa_cons (pv 0) (pa_cons pe_int pa_nil))) pe_int (nomark _))))) (pe_lst pa_nil) (pe_lst (pa_cons (pe_ix ix_tup (pv 2) pe_int (fun _ _ => rfl)) pa_nil))))
      (C8.pss_cut (ps_if (PW.pt (pw_and (pt_cmpR op_eq (pe_call GR (hr.mono (by omega)) (by rfl) T.g_law_roll T.f_law_roll.kp T.n_law_roll .nil pass0 (pa_cons (pv 0) (pa_cons pe_int pa_nil))) pe_int (nomark _)) (pw_and1 (pt_cmpR (op_neF (room200 hr)) (pe_ix ix_tup (pv 2) pe_int (fun _ _ => rfl)) (pe_tup pa_nil) (nomark _))))) (pss_one (ps_set (i := 4) nd rfl (.inl rfl) (pe_call GP (hr.mono (by omega)) (by rfl) T.g_law_pick T.f_law_pick.kp T.n_law_pick .nil pass0 (pa_cons (pv 0) (pa_cons (pe_ix ix_tup (pv 2) pe_int (fun _ _ => rfl)) pa_nil))))) pss_nil)
      (pss_one (ps_ret (pe_call GD (hr.mono (by omega)) (by rfl) T.g_law_due T.f_law_due.kp T.n_law_due .nil pass0 (pa_cons (pv 4) (pa_cons (pe_op op_cat (pe_callTy call_list_of (by rfl) T.b_list (by decide +kernel) (pa_cons (pv 3) pa_nil)) (pv 5)) pa_nil)))))))), ?_⟩
  refine ⟨_, rfl, _, rfl, a, b, 2, m, zs, rfl, by decide, by decide, by decide, hd, by unfold cap; omega, ri, nba, gd, fun x1 M e H1 b1 dd1 dx1 fm => ?_⟩
  obtain ⟨f1, t1, us1, v1, rfl, hf1, ht1, hus1, hv1⟩ := dx_fact dx1
  refine ⟨f1, _, rfl, SqT.of hf1, rfl, _, _, rfl, _, _, rfl, rfl, ?_⟩
  have dxc := Dx.ts (Tups.but b1 hd) _ _ (fa_pure fa) dx
  have ri1 := ri.but b1 hd nba
  obtain ⟨f2, t2, us2, v2, rfl, hf2, ht2, hus2, hv2⟩ := dx_fact dxc
  have prM : ∀ z, z ∈ M → Pr (zs.map Prod.snd) 2 z := fm.ps
  have pM := cp_pure fun z hz => (fm.ps z hz).cp
  have pL := cp_pure fun z hz => (fa.ps z hz).cp
  have pE : pureD e = true := by
    have := fa_pure fm
    simp only [pureD, pureAll, Bool.and_true, Bool.and_eq_true] at this
    exact this.2
  have pC : pureD c = true := by
    have := fa_pure fa
    simp only [pureD, pureAll, Bool.and_true, Bool.and_eq_true] at this
    exact this.2
  -- what holds behind more = ..
  refine ⟨fun σ' G => But a H G ∧ Dice G a (m + 1301) ∧ Tups H1 G ∧ ∃ (l : Addr) (ws : List V) (ds : List PyData), σ' = [some (.ref a), some (.ref b), some (.ref f2), some (.ref t1), some v1, some (.ref l)] ∧ l ≠ a ∧ G l = some (.lst ws) ∧ DxAll K G ws ds ∧ ds.length ≤ 1 ∧ ∀ z, z ∈ ds → Pr (zs.map Prod.snd) 2 z, ?_, ?_⟩
  · refine ⟨_, rfl, f2, _, 1, v2, rfl, rfl, SqT.of hf2, atI_nat (j := 1) rfl, rfl, _, rfl, ?_⟩
    by_cases ev : v2 = .non
    · rw [decide_eq_true ev]
      refine iteT (iteT ⟨by show 0 ≤ sizeLine; decide, fun l nl => ⟨b1.trans (But.of (same_put nl)), (dd1.up (same_put nl)).le (by omega), Tups.of (same_put nl), l, [], [], rfl, dd1.ne nl, upd_same, .nil, Nat.zero_le _, (fun z hz => by cases hz)⟩⟩)
    · rw [decide_eq_false ev]
      refine iteF ⟨_, rfl, a, m + 1300, 5, rfl, dd1, by unfold cap; omega, by decide, by decide, fun r H2 b2 dd2 r0 r1 => ⟨rfl, _, rfl, ite2 (fun e2 => ?_) (fun e2 => ?_)⟩⟩
      · exact ⟨by show 0 ≤ sizeLine; decide, fun l nl => ⟨(b1.trans b2).trans (But.of (same_put nl)), dd2.up (same_put nl), (Tups.but b2 dd1).trans (Tups.of (same_put nl)), l, [], [], rfl, dd2.ne nl, upd_same, .nil, Nat.zero_le _, (fun z hz => by cases hz)⟩⟩
      · have tb := Tups.but b2 dd1
        refine ⟨_, rfl, f2, _, 1, v2, rfl, rfl, SqT.of (tb _ _ hf2), atI_nat (j := 1) rfl, by show 1 ≤ sizeLine; decide, fun l nl => ?_⟩
        have sl := same_put (o := .lst [v2]) nl
        refine ⟨(b1.trans b2).trans (But.of sl), dd2.up sl, tb.trans (Tups.of sl), l, [v2], [c], rfl, dd2.ne nl, upd_same, .cons (Dx.ts (tb.trans (Tups.of sl)) _ _ pC hv2) .nil, Nat.le_refl _, fun z hz => ?_⟩
        rw [List.mem_singleton.mp hz]
        exact fa.c.elim (fun z => absurd ((dx_nil hv2).mp z) ev) id
  rintro σ1 G1 ⟨bG1, dG1, tG1, l, ws, ds, rfl, nla, el, dws, ld, prd⟩
  -- what holds behind told = ..
  refine ⟨fun σ' G => But a H G ∧ Dice G a (m + 1303) ∧ Tups G1 G ∧ ∃ (y : V) (told : PyData), σ' = [some (.ref a), some (.ref b), some (.ref f2), some (.ref t1), some y, some (.ref l)] ∧ G l = some (.lst ws) ∧ Dx K G y told ∧ (told = .none ∨ Pr (zs.map Prod.snd) 2 told), ?_, ?_⟩
  · have v1x := Dx.ts tG1 _ _ pE hv1
    refine ⟨_, rfl, a, m + 1301, 6, rfl, dG1, by unfold cap; omega, by decide, by decide, fun r H2 b2 dd2 r0 r1 => ⟨rfl, _, rfl, ite2 (fun e2 => ?_) (fun e2 => ?_)⟩⟩
    · have tb := tG1.trans (Tups.but b2 dG1)
      refine ⟨_, rfl, f2, _, 0, .ref t2, rfl, rfl, SqT.of (tb _ _ hf2), atI_nat (j := 0) rfl, by show 0 ≤ sizeLine; decide, fun e0 ne0 => ?_⟩
      have se := same_put (o := .tup []) ne0
      have tS := tb.trans (Tups.of se)
      obtain ⟨y1, y2, y3⟩ := lay_cp fun z hz => (fa.ps z hz).cp
      have hus3 := DxAll.ts tS _ _ pL hus2
      have dS := dd2.up se
      have bS := (bG1.trans b2).trans (But.of se)
      have elS := se _ _ (b2 _ _ el nla)
      refine ⟨.tuple L, .tuple [], .tup (.inl (.inl (tS _ _ ht2))) (DxAll.dp y2 hus3), .tup (.inl (.inl upd_same)) .nil, by simpa [PyData.canLay0] using y1, rfl, by simp only [PyData.depth]; omega, _, rfl, ?_⟩
      have stay : But a H (upd H2 e0 (.tup [])) ∧ Dice (upd H2 e0 (.tup [])) a (m + 1303) ∧ Tups G1 (upd H2 e0 (.tup [])) ∧ ∃ (y : V) (told : PyData), [some (V.ref a), some (.ref b), some (.ref f2), some (.ref t1), some v1, some (.ref l)] = [some (.ref a), some (.ref b), some (.ref f2), some (.ref t1), some y, some (.ref l)] ∧ (upd H2 e0 (.tup [])) l = some (.lst ws) ∧ Dx K (upd H2 e0 (.tup [])) y told ∧ (told = .none ∨ Pr (zs.map Prod.snd) 2 told) := ⟨bS, dS.le (by omega), (Tups.but b2 dG1).trans (Tups.of se), v1, e, rfl, elS, Dx.ts ((Tups.but b2 dG1).trans (Tups.of se)) _ _ pE v1x, fm.c⟩
      cases L with
      | nil => exact iteF stay
      | cons z L =>
        have lus := hus3.length
        refine iteT ⟨_, rfl, _, rfl, f2, _, 0, .ref t2, rfl, rfl, SqT.of (tS _ _ hf2), atI_nat (j := 0) rfl, a, t2, m + 1302, us2, rfl, dS, by unfold cap; omega, tS _ _ ht2, by rw [lus]; exact Nat.succ_pos _, by rw [lus]; have := fa.len; omega, fun i v H3 b3 dd3 hi => ?_⟩
        have t3 := Tups.but b3 dS
        have lti : i < (z :: L).length := by rw [← lus]; exact (List.getElem?_eq_some_iff.mp hi).1
        obtain ⟨w2, hw2, dw⟩ := hus3.get (List.getElem?_eq_getElem lti)
        rw [hi] at hw2
        cases hw2
        have pz := fa.ps _ (List.getElem_mem lti)
        refine ⟨bS.trans b3, dd3, ((Tups.but b2 dG1).trans (Tups.of se)).trans t3, v, _, rfl, b3 _ _ elS nla, Dx.ts t3 _ _ ?_ dw, .inr pz⟩
        obtain ⟨a', b', ez, ha, hb, _⟩ := pz.ex
        rw [ez]
        exact pure_two ha.fm hb.fm
    · exact iteF ⟨bG1.trans b2, dd2.le (by omega), Tups.but b2 dG1, v1, e, rfl, b2 _ _ el nla, Dx.ts (Tups.but b2 dG1) _ _ pE v1x, fm.c⟩
  rintro σ2 G2 ⟨bG2, dG2, tG2, y, told, rfl, el2, dy, pt⟩
  have tA := tG1.trans tG2
  refine ⟨_, rfl, _, rfl, t1, us1, rfl, .inr (SqT.of (tA _ _ ht1)), fun l2 nl2 => ?_⟩
  have s3 := same_put (o := .lst us1) nl2
  have hus4 := DxAll.ts tA _ _ pM hus1
  have dws4 := DxAll.ts tG2 _ _ (cp_pure fun z hz => (prd z hz).cp) dws
  have lu := hus4.length
  have lw := dws4.length
  have lm := fm.len
  refine ⟨_, rfl, l2, l, us1, ws, rfl, rfl, upd_same, s3 _ _ el2, by rw [lu, lw]; exact Nat.le_of_lt (small1000 (by omega)), fun l4 nl4 => ?_⟩
  have s4 := same_put (o := .lst (us1 ++ ws)) nl4
  have s34 := s3.trans s4
  have pr4 : ∀ z, z ∈ M ++ ds → Pr (zs.map Prod.snd) 2 z := fun z hz => (List.mem_append.mp hz).elim (fm.ps z) (prd z)
  refine ⟨y, l4, us1 ++ ws, M ++ ds, told, rfl, dy.up s34, SqL.of upd_same, (DxAll.append (hus4.up s34) (dws4.up s34)), cp_cns (fun z hz => (pr4 z hz).cp) (by decide) gd.fn, by rw [List.length_append]; omega, fun x hx => Nat.le_trans (cp_side (fun z hz => (pr4 z hz).cp) x hx).dp (by decide), pr_told pt (by decide), fun z r H5 s5 dz du => ?_⟩
  obtain ⟨N, _, rfl, fN⟩ := due_fa du gd.fn pr4 pt
  exact q _ N told _ (bG2.trans (But.of (s34.trans s5))) ((dG2.up (s34.trans s5)).le (by omega)) dz (fN.le (by rw [List.length_append]; omega))
end
end K12
/-! _law_cut_due. -/
namespace K12
open PySem PySem.Spec PyProof.Rows L2 Kx
theorem pr_eqv {rs : List NK} {n : Nat} {x y : PyData} (hx : Pr rs n x) (hy : Pr rs n y) : PyData.eqv x y = true ↔ x = y := by
  obtain ⟨a, b, rfl, ha, hb, _⟩ := hx.ex
  obtain ⟨c, d, rfl, hc, hd, _⟩ := hy.ex
  simp only [PyData.eqv, PyData.eqvAll, Bool.and_true, Bool.and_eq_true, eqv_formed a c ha.fm hc.fm, eqv_formed b d hb.fm hd.fm, PyData.tuple.injEq, List.cons.injEq, and_true]
theorem pr_lay {rs : List NK} {n : Nat} {z : PyData} (h : Pr rs n z) : z.canLay0 = true ∧ z.hasDict = false ∧ z.depth ≤ n + 1 ∧ pureD z = true := by
  obtain ⟨a, b, rfl, ha, hb, _⟩ := h.ex
  obtain ⟨y1, y2, y3⟩ := lay_cp (ds := [.tuple [a, b]]) fun z hz => by rw [List.mem_singleton.mp hz]; exact ⟨a, b, rfl, ha, hb⟩
  simp only [PyData.canLayAll0, PyData.hasDictAll, PyData.depthAll, Bool.and_true, Bool.or_false] at y1 y2 y3
  exact ⟨y1, y2, by omega, pure_two ha.fm hb.fm⟩
section
variable {P : Program} {w : World} {K : PySem.W.Frag} {mg : Str → Option Value} {base : Heap}
def spCd (K : PySem.W.Frag) : Sp := fun vs H Q _ => ∃ (x y : V) (L M : List PyData) (c e : PyData) (rs : List NK), vs = [x, y] ∧ Dx K H x (.tuple [.tuple L, c]) ∧ Dx K H y (.tuple [.tuple M, e]) ∧ Fa rs 2 6 L c ∧ Fa rs 2 5 M e ∧ Func rs ∧
  ∀ z r H', Same H H' → Dx K H' z r → CutD L c M e r → Q z H'
theorem ok_cd (T : Tx K mg) : FnOk P w K mg base CX0 9 T.a_law_cut_due T.d_law_cut_due ["first", "second"] (spCd K) := by
  have nd := sc__law_cut_due.nd
  have GD := ok_due (P := P) (w := w) (base := base) T
  refine T.f_law_cut_due.ok sc__law_cut_due (fun vs H Q E h => ?_) (fun cdv A outer s H vs Q E hr h => ?_)
  · obtain ⟨x, y, L, M, c, e, rs, rfl, _⟩ := h
    rfl
  obtain ⟨x, y, L, M, c, e, rs, rfl, dx, dy, fL, fM, F, q⟩ := h
  refine ⟨_, (pss_cons (ps_if (PW.pt (pw_or (pt_cmpR op_isN (pe_ix ix_tup (pv 0) pe_int (fun _ _ => rfl)) pe_non (nomark _)) (pw_or1 (pt_cmpR (op_notInT (room65 hr)) (pe_ix ix_tup (pv 0) pe_int (fun _ _ => rfl)) (pe_ix ix_tup (pv 1) pe_int (fun _ _ => rfl)) (by rfl))))) (pss_one (ps_ret pe_non)) pss_nil)
      (pss_cons (ps_set (i := 2) nd rfl (.inl rfl) (pe_call GD (hr.mono (by omega)) (by rfl) T.g_law_due T.f_law_due.kp T.n_law_due .nil pass0 (pa_cons (pe_ix ix_tup (pv 1) pe_int (fun _ _ => rfl)) (pa_cons (pe_op op_cat (pe_callTy call_list_of (by rfl) T.b_list (by decide +kernel) (pa_cons (pe_ix ix_tup (pv 0) pe_int (fun _ _ => rfl)) pa_nil)) (pe_lc (own := [("pair", 3)]) (g := (gName 3)) (by rfl) nd (pi_tup (pe_ix ix_tup (pv 1) pe_int (fun _ _ => rfl))) (blkOk_by (own := [("pair", 3)]) (N := N__law_cut_due) (sc := defScope s__law_cut_due) (by decide +kernel)) (fun _ _ _ _ _ => pg_name (i := 3) nd rfl (.inl rfl)) (fun _ _ _ _ _ => (pts_one (pt_cmpR (r := rNeF K) (op_neF (room200 hr)) (pv 3) (pe_ix (r := rIxT K) ix_tup (pv 0) pe_int (fun _ _ => rfl)) (nomark _)))) (fun _ _ _ _ _ => (pv 3)))) pa_nil))))
      (pss_one (ps_ret (pe_ifExp (pt_cmpR (op_inT (room65 hr)) (pe_ix ix_tup (pv 2) pe_int (fun _ _ => rfl)) (pe_ix ix_tup (pv 2) pe_int (fun _ _ => rfl)) (by rfl)) pe_non (pv 2)))))), ?_⟩
  obtain ⟨f1, t1, us1, v1, rfl, hf1, ht1, hus1, hv1⟩ := dx_fact dx
  obtain ⟨f2, t2, us2, v2, rfl, hf2, ht2, hus2, hv2⟩ := dx_fact dy
  refine ⟨_, rfl, f1, _, 1, v1, rfl, rfl, SqT.of hf1, atI_nat (j := 1) rfl, rfl, _, rfl, ?_⟩
  by_cases ev : v1 = .non
  · have ee := (dx_nil hv1).mpr ev
    rw [decide_eq_true ev]
    exact iteT (iteT (q _ _ H (Same.refl H) .non (.inl ⟨.inl ee, rfl⟩)))
  have ee : c ≠ .none := fun z => ev ((dx_nil hv1).mp z)
  rw [decide_eq_false ev]
  have pc : Pr rs 2 c := fL.c.elim (fun z => absurd z ee) id
  obtain ⟨c1, c2, c3, c4⟩ := pr_lay pc
  obtain ⟨m1, m2, m3⟩ := lay_cp fun z hz => (fM.ps z hz).cp
  have anyM : (M.any fun z => PyData.eqv z c) = true ↔ c ∈ M := by
    rw [List.any_eq_true]
    exact ⟨fun ⟨z, hz, e⟩ => (pr_eqv (fM.ps z hz) pc).mp e ▸ hz, fun h => ⟨c, h, (pr_eqv pc pc).mpr rfl⟩⟩
  refine iteF ⟨_, rfl, f1, _, 1, v1, rfl, rfl, SqT.of hf1, atI_nat (j := 1) rfl, _, rfl, f2, _, 0, .ref t2, rfl, rfl, SqT.of hf2, atI_nat (j := 0) rfl, c, M, hv1.dp c2, .tup (.inl (.inl ht2)) (DxAll.dp m2 hus2), c1, m1, by omega, _, rfl, ?_⟩
  by_cases inM : c ∈ M
  · rw [anyM.mpr inM]
    refine iteF ?_
    refine ⟨_, rfl, f2, _, 1, v2, rfl, rfl, SqT.of hf2, atI_nat (j := 1) rfl, _, rfl, f1, _, 0, .ref t1, rfl, rfl, SqT.of hf1, atI_nat (j := 0) rfl, t1, us1, rfl, .inr (SqT.of ht1), fun l nl => ?_⟩
    have s1 := same_put (o := .lst us1) nl
    have el : (upd H l (.lst us1)) l = some (.lst us1) := upd_same
    generalize upd H l (.lst us1) = H1 at s1 el ⊢
    refine ⟨_, rfl, f2, _, 0, .ref t2, rfl, rfl, SqT.of (s1 _ _ hf2), atI_nat (j := 0) rfl, t2, rfl, ⟨_, SqT.of (s1 _ _ ht2)⟩, fun D nD => ?_⟩
    have ly := hus2.length
    have lM := fM.len
    refine lc_tup (K := K) (a := t2) (xs := us2) (fun i G => Same H1 G ∧ ∃ ws, G D = some (.lst ws) ∧ DxAll K G ws ((M.take i).filter fun z => !PyData.eqv z c)) ⟨same_put nD, [], upd_same, .nil⟩ (fun i G _ h => SqT.of (h.1 _ _ (s1 _ _ ht2))) ?_ ?_
    · rintro i x G hi ⟨sG, ws, eD, dw⟩
      have lti : i < M.length := by rw [← ly]; exact (List.getElem?_eq_some_iff.mp hi).1
      have gd := List.getElem?_eq_getElem lti
      obtain ⟨v3, hv3, dv⟩ := hus2.get gd
      rw [hi] at hv3
      cases hv3
      have pm := fM.ps _ (List.getElem_mem lti)
      obtain ⟨z1, z2, z3, z4⟩ := pr_lay pm
      have s2 := s1.trans sG
      refine ⟨rfl, _, rfl, _, rfl, f1, _, 1, v1, rfl, rfl, SqT.of (s2 _ _ hf1), atI_nat (j := 1) rfl, M[i], c, (dv.up s2).dp z2, (hv1.up s2).dp c2, z1, c1, by omega, _, rfl, ?_⟩
      cases hb : PyData.eqv M[i] c with
      | true =>
        refine (iteF (A := False) ?_ : if (!true) = true then _ else _)
        refine ⟨sG, ws, eD, ?_⟩
        rw [List.take_add_one, gd, List.filter_append]
        simp only [Option.toList_some, List.filter_cons, hb, Bool.not_true, List.filter_nil, Bool.false_eq_true, if_false, List.append_nil]
        exact dw
      | false =>
        refine (iteT (B := False) ?_ : if (!false) = true then _ else _)
        refine ⟨_, rfl, ws, eD, ?_, fun c o hc => ?_, ws ++ [x], upd_same, ?_⟩
        · have l1 := dw.length
          have l2 := List.length_filter_le (fun z => !PyData.eqv z c) (M.take i)
          rw [List.length_take] at l2
          exact small1000 (by omega)
        · rw [upd_ne (ne_of_none hc nD)]
          exact sG _ _ hc
        · have tl := Tups.lst (ys := ws ++ [x]) eD
          have e1 : (M.take (i + 1)).filter (fun z => !PyData.eqv z c) = (M.take i).filter (fun z => !PyData.eqv z c) ++ [M[i]] := by
            rw [List.take_add_one, gd, List.filter_append]
            simp only [Option.toList_some, List.filter_cons, hb, Bool.not_false, List.filter_nil, if_true]
          rw [e1]
          refine DxAll.ts tl _ _ (cp_pure (rs := rs) (n := 2) fun z hz => ?_) (DxAll.append dw (.cons (dv.up s2) .nil))
          rcases List.mem_append.mp hz with hz | hz
          · exact (fM.ps z (List.mem_of_mem_take (List.mem_filter.mp hz).1)).cp
          · rw [List.mem_singleton.mp hz]
            exact pm.cp
    rintro G ⟨sG, ws, eD, dw⟩
    rw [ly, List.take_length] at dw
    have s2 := s1.trans sG
    have l1 := List.length_filter_le (fun z => !PyData.eqv z c) M
    have lw := dw.length
    have lu := hus1.length
    have lL := fL.len
    refine ⟨l, D, us1, ws, rfl, rfl, sG _ _ el, eD, by rw [lu, lw]; exact Nat.le_of_lt (small1000 (by omega)), fun l4 nl4 => ?_⟩
    have s4 := same_put (o := .lst (us1 ++ ws)) nl4
    have sA := s2.trans s4
    have pr4 : ∀ z, z ∈ L ++ M.filter (fun z => !PyData.eqv z c) → Pr rs 2 z := fun z hz => (List.mem_append.mp hz).elim (fL.ps z) fun h => fM.ps z (List.mem_filter.mp h).1
    refine ⟨v2, l4, us1 ++ ws, L ++ M.filter (fun z => !PyData.eqv z c), e, rfl, hv2.up sA, SqL.of upd_same, DxAll.append (hus1.up sA) (dw.up s4), cp_cns (fun z hz => (pr4 z hz).cp) (by decide) F, by rw [List.length_append]; omega, fun x hx => Nat.le_trans (cp_side (fun z hz => (pr4 z hz).cp) x hx).dp (by decide), pr_told fM.c (by decide), fun z r H5 s5 dz du => ?_⟩
    obtain ⟨N, pN, rfl, fN⟩ := due_fa du F pr4 fM.c
    have sB := sA.trans s5
    obtain ⟨f3, t3, us3, v3, rfl, hf3, ht3, hus3, hv3⟩ := dx_fact dz
    obtain ⟨n1, n2, n3⟩ := lay_cp fun z hz => (fN.ps z hz).cp
    have foN : FoD (L ++ M.filter fun z => !PyData.eqv z c) e (.tuple [.tuple N, e]) := by
      refine ⟨N, pN, ?_⟩
      rcases fM.c with z | pe
      · exact .inl ⟨z, by rw [z]⟩
      · obtain ⟨a, b, rfl, ha, hb, lt⟩ := pe.ex
        exact .inr ⟨a, b, rfl, .inr (.inl ⟨(tx_lt ha.fm hb.fm (rows_in ha hb F)).mpr lt, rfl⟩)⟩
    have eLay : e.canLay0 = true ∧ e.hasDict = false ∧ e.depth ≤ 64 := by
      rcases fM.c with rfl | pe
      · exact ⟨rfl, rfl, by simp [PyData.depth]⟩
      · obtain ⟨a1, a2, a3, _⟩ := pr_lay pe
        exact ⟨a1, a2, by omega⟩
    refine ⟨_, rfl, f3, _, 1, v3, rfl, rfl, SqT.of hf3, atI_nat (j := 1) rfl, _, rfl, f3, _, 0, .ref t3, rfl, rfl, SqT.of hf3, atI_nat (j := 0) rfl, e, N, hv3.dp eLay.2.1, .tup (.inl (.inl ht3)) (DxAll.dp n2 hus3), eLay.1, n1, eLay.2.2, _, rfl, ?_⟩
    have anyN : (N.any fun z => PyData.eqv z e) = true ↔ e ≠ .none ∧ e ∈ N := by
      rw [List.any_eq_true]
      constructor
      · rintro ⟨z, hz, h⟩
        rcases fM.c with rfl | pe
        · obtain ⟨a, b, rfl, _⟩ := (fN.ps z hz).ex
          cases h
        · have := (pr_eqv (fN.ps z hz) pe).mp h
          refine ⟨fun ez => ?_, this ▸ hz⟩
          obtain ⟨a, b, eab, _⟩ := pe.ex
          rw [ez] at eab
          cases eab
      · rintro ⟨ne, hz⟩
        have pe := fM.c.elim (fun z => absurd z ne) id
        exact ⟨e, hz, (pr_eqv pe pe).mpr rfl⟩
    cases hb : (N.any fun z => PyData.eqv z e) with
    | true =>
      obtain ⟨z1, z2⟩ := anyN.mp hb
      exact iteT (q _ _ _ sB .non (.inr ⟨ee, inM, N, e, foN, .inl ⟨z1, z2, rfl⟩⟩))
    | false => exact iteF ⟨_, rfl, q _ _ _ sB dz (.inr ⟨ee, inM, N, e, foN, .inr ⟨(fun z => by rw [anyN.mpr z] at hb; cases hb), rfl⟩⟩)⟩
  · have nb : (M.any fun z => PyData.eqv z c) = false := by
      cases h : (M.any fun z => PyData.eqv z c) with
      | false => rfl
      | true => exact absurd (anyM.mp h) inM
    rw [nb]
    exact iteT (q _ _ H (Same.refl H) .non (.inl ⟨.inr inM, rfl⟩))
end
end K12
/-! dict(ps), ps a list of pairs of a tuple and a value. -/
namespace Kx
open PySem PySem.Spec PyProof.Rows L2
abbrev KPr := List Key × Addr × Value
section
variable {prog : Program} {w : World} {A : Around}
theorem tk_ext {h h' : Heap} {ks : List Key} {a : Addr} (x : (tupleKind (mixKind prog w)).is h ks a) (k : ∀ o, h.get? a = some o → h'.get? a = some o) : (tupleKind (mixKind prog w)).is h' ks a := by
  obtain ⟨o', items, n, ho', r⟩ := x
  exact ⟨o', items, n, k _ ho', r⟩
theorem dh_ext {h h' : Heap} {S I : Addr} {acc : List KPr} (x : h.DictOfH (tupleKind (mixKind prog w)) S acc) (k : ∀ b o, b ≠ I → h.get? b = some o → h'.get? b = some o) (hSI : S ≠ I) (na : ∀ p, p ∈ acc → p.2.1 ≠ I) : h'.DictOfH (tupleKind (mixKind prog w)) S acc := by
  obtain ⟨o, es, ep, ho, h2, h3, h4, h5, h6⟩ := x
  exact ⟨o, es, ep, k _ _ hSI ho, h2, h3, h4, fun p hp => tk_ext (h5 p hp) fun o ho => k _ _ (na p hp) ho, h6⟩
def mergedH (acc : List KPr) (l : List KPr) : List KPr := l.foldl (fun acc q => storedH acc q.1 q.2.1 q.2.2) acc
theorem mem_storedH {acc : List KPr} {k : List Key} {b : Addr} {v : Value} {p : KPr} (h : p ∈ storedH acc k b v) : p.2.1 = b ∨ ∃ q, q ∈ acc ∧ q.2.1 = p.2.1 := by
  unfold storedH at h
  split at h
  · obtain ⟨q, hq, rfl⟩ := List.mem_map.mp h
    refine .inr ⟨q, hq, ?_⟩
    unfold putAt
    split <;> rfl
  · rcases List.mem_append.mp h with h | h
    · exact .inr ⟨p, h, rfl⟩
    · rw [List.mem_singleton.mp h]
      exact .inl rfl
theorem storedH_le (acc : List KPr) (k : List Key) (b : Addr) (v : Value) : (storedH acc k b v).length ≤ acc.length + 1 := by
  unfold storedH
  split
  · rw [List.length_map]
    omega
  · rw [List.length_append]
    exact Nat.le_refl _
theorem upd_loopT {R : Result → Shared → Prop} {S I l : Addr} {items : Array Value} {res : Value} (hu : A.units + 1 < cLine) (hh : A.handled = none) (hlI : l ≠ I) (hSI : S ≠ I) (hSl : S ≠ l) :
    ∀ (rest : List KPr) (i : Nat) (acc : List KPr) (ix : Int) (t : Tok) (s : Shared), items.size = i + rest.length → acc.length + rest.length ≤ sizeLine → (∀ p, p ∈ acc → p.2.1 ≠ I) →
      (∀ (j : Nat) (q : KPr), rest[j]? = some q → ∃ b : Addr, items[i + j]? = some (.ref b) ∧ b ≠ S ∧ b ≠ I ∧ IsTup s.heap b #[.ref q.2.1, q.2.2] ∧ q.2.1 ≠ S ∧ q.2.1 ≠ I ∧ (tupleKind (mixKind prog w)).is s.heap q.1 q.2.1) →
      s.heap.IsListIter I l i → s.heap.IsList l items → s.heap.DictOfH (tupleKind (mixKind prog w)) S acc →
      (∀ h' tk, h'.DictOfH (tupleKind (mixKind prog w)) S (mergedH acc rest) → (∀ b o, b ≠ S → b ≠ I → s.heap.get? b = some o → h'.get? b = some o) → R (.ok (.ret res)) { s with heap := h', toks := tk }) →
      codeAny (model prog w) A (.builtin "dict.update.loop" ⟨[.ref S, .ref I, .int ix t, res], []⟩) R s
  | [], i, acc, ix, t, s, hsz, hln, hna, ht, hit, hl, hm, hR => by
    refine codeAny_builtin ud_entry ?_
    rw [Around.under_plainId ud_plain _]
    show wpAny _ A.in1 (pyNext (.ref I) >>= _) _ _ s
    refine wpAny_bind (wpAny_pyNext_list_end (A := A.in1) hh hit hl (by first | exact Array.getElem?_eq_none (Nat.le_of_eq hsz) | (simp at hsz; simp; omega)) fun h' he => ?_)
    show wpAny _ A.in1 (Builtin.Dict.addKeywords S [] >>= _) _ _ _
    refine wpAny_bind (wpAny_pure (wpAny_pure ?_))
    exact hR h' s.toks (dh_ext hm (fun b o n e => he b o n e) hSI hna) fun b o _ hb e => he b o hb e
  | q :: rest, i, acc, ix, t, s, hsz, hln, hna, ht, hit, hl, hm, hR => by
    obtain ⟨b, hb, hbS, hbI, htup, hkS, hkI, hk⟩ := ht 0 q rfl
    rw [List.length_cons] at hsz hln
    refine codeAny_builtin ud_entry ?_
    rw [Around.under_plainId ud_plain _]
    show wpAny _ A.in1 (pyNext (.ref I) >>= _) _ _ s
    refine wpAny_bind (wpAny_pyNext_list_item (x := .ref b) hit hl (by simpa using hb) fun h1 hit1 hs1 => ?_)
    have ht1 : IsTup h1 b #[.ref q.2.1, q.2.2] := htup.extBut hs1.extBut hbI
    have hl1 : h1.IsList l items := hl.extBut hs1.extBut hlI
    have hm1 : h1.DictOfH (tupleKind (mixKind prog w)) S acc := dh_ext hm (fun b o n e => hs1.extBut b o n e) hSI hna
    have hk1 := tk_ext hk fun o e => hs1.extBut _ o hkI e
    obtain ⟨o, ho, hc, n, hd⟩ := id ht1
    show wpAny _ A.in1 (holding [Value.ref b] _ >>= _) _ _ _
    refine wpAny_bind (wpAny_holding ?_)
    refine wpAny_bind (wpAny_tryCatch ?_)
    unfold Builtin.Dict.pairItems
    refine wpAny_bind (wpAny_typeOf (T := "tuple") ⟨o, ho, hc⟩ ?_)
    rw [if_pos (by first | decide | rfl | simp)]
    refine wpAny_bind (wpAny_seqItems ho hd (wpAny_pure ?_))
    show wpAny _ A.in1 (holding [.ref q.2.1, q.2.2] (dictSet S (.ref q.2.1) q.2.2)) _ _ _
    refine wpAny_holding (wpAny_dictSet_heap (knd := tupleKind (mixKind prog w)) (k := q.1) (hsz := by omega) (tupleKind_room_in1 hu) hk1 hm1 fun h2 hm2 hs2 => ?_)
    refine wpAny_pure ⟨plainId_quiet ud_plain _, upd_loopT (items := items) hu hh hlI hSI hSl rest (i + 1) (storedH acc q.1 q.2.1 q.2.2) (ix + 1) 0 _ (show items.size = i + 1 + rest.length by omega) ?_ (fun p hp => ?_) (fun j q' e => ?_) ?_ ?_ hm2 fun h' tk hd' k => ?_⟩
    · have z := storedH_le acc q.1 q.2.1 q.2.2
      omega
    · rcases mem_storedH hp with e | ⟨p', hp', e⟩
      · rw [e]
        exact hkI
      · rw [← e]
        exact hna p' hp'
    · obtain ⟨b', hb', hbS', hbI', htup', hkS', hkI', hk'⟩ := ht (j + 1) q' (by simpa using e)
      refine ⟨b', ?_, hbS', hbI', (htup'.extBut hs1.extBut hbI').extBut hs2.extBut hbS', hkS', hkI', tk_ext hk' fun o e => hs2.extBut _ o hkS' (hs1.extBut _ o hkI' e)⟩
      rw [show i + 1 + j = i + (j + 1) by omega]
      exact hb'
    · exact hit1.at fun o' e => hs2.extBut I o' (Ne.symm hSI) e
    · exact hl1.extBut hs2.extBut (Ne.symm hSl)
    · exact hR h' tk hd' fun c oc h3 h4 e => k c oc h3 h4 (hs2.extBut c oc h3 (hs1.extBut c oc h4 e))
theorem call_dict_pairsT {s : Shared} {l : Addr} {ol : Obj} {items : Array Value} {n : Nat} {prs : List KPr} {Q : Value → Shared → Prop} {E : Value → Shared → Prop} (hu : A.units + 2 < cLine) (hh : A.handled = none) (hl : s.heap.get? l = some ol) (hc : ol.cls = .type "list") (hd : ol.dict = none)
    (hdat : ol.data = .seq items n) (hsz : items.size = prs.length) (hln : prs.length ≤ sizeLine)
    (ht : ∀ (j : Nat) (q : KPr), prs[j]? = some q → ∃ b : Addr, items[j]? = some (.ref b) ∧ IsTup s.heap b #[.ref q.2.1, q.2.2] ∧ (tupleKind (mixKind prog w)).is s.heap q.1 q.2.1)
    (h : ∀ h' tk, h'.DictOfH (tupleKind (mixKind prog w)) s.heap.objs.size (mergedH [] prs) → (∀ b o, s.heap.get? b = some o → h'.get? b = some o) → Q (.ref s.heap.objs.size) { s with heap := h', toks := tk }) :
    wpAny (model prog w) A (call (.type "dict") [.ref l]) Q E s := by
  refine callType_codes (Q₁ := fun obj s₁ => obj = .ref s.heap.objs.size ∧ s₁ = { s with heap := s.heap.push { cls := .type "dict", data := .dict #[] } }) PySem.F.kt_called_dict (PySem.F.kt_typeCall_dict_1 _) PySem.F.entry_dict_init (kt_code_dict_new _ ⟨rfl, rfl⟩) ?_
  rintro obj s₁ ⟨rfl, rfl⟩
  have hnew : (s.heap.push { cls := .type "dict", data := .dict #[] }).DictOfH (tupleKind (mixKind prog w)) s.heap.objs.size [] := Heap.DictOfH.new s.heap
  have k0 : ∀ b o, s.heap.get? b = some o → (s.heap.push { cls := .type "dict", data := .dict #[] }).get? b = some o := fun b o e => Heap.get?_push_of_some _ e
  refine ⟨Heap.DictOfH.typeIs (s := { s with heap := s.heap.push { cls := .type "dict", data := .dict #[] } }) hnew, PySem.F.args_dict_init_2 _ _, ?_⟩
  unfold Builtin.«dict.__init__»
  refine wpAny_bind ?_
  unfold Builtin.Dict.selfAndRest
  refine wpAny_bind (wpAny_notOrdered_dict (Heap.DictOfH.typeIs (s := { s with heap := s.heap.push { cls := .type "dict", data := .dict #[] } }) hnew) ?_)
  show wpAny _ _ (pure (s.heap.objs.size, [Value.ref l])) _ _ _
  refine wpAny_pure ?_
  show wpAny _ _ (Builtin.Dict.updateFrom "dict.__init__" s.heap.objs.size (.ref l) [] .none) _ _ _
  unfold Builtin.Dict.updateFrom
  refine wpAny_bind (wpAny_typeOf (T := "list") ⟨ol, k0 _ _ hl, hc⟩ ?_)
  rw [if_pos (by first | decide | rfl | simp)]
  refine wpAny_bind (miss_list (k0 _ _ hl) hc hdat hd hh fun h1 tk1 hk1 => ?_)
  rw [if_pos (show (none : Option Value).isNone = true from rfl)]
  refine wpAny_bind (wpAny_rule ?_)
  have hl1 : h1.IsList l items := ⟨ol, hk1 _ _ (k0 _ _ hl), hc, n, hdat⟩
  have hS1 : s.heap.objs.size < h1.objs.size := by
    have e : (s.heap.push { cls := .type "dict", data := .dict #[] }).get? s.heap.objs.size = some { cls := .type "dict", data := .dict #[] } := Heap.get?_push_size _ rfl
    exact Heap.lt_size (hk1 _ _ e)
  refine wpAny_bind (wpAny_pyIter_list hl1 ?_)
  have k2 : ∀ b o, h1.get? b = some o → (h1.push { cls := .type "list_iterator", data := .fields #[.ref l, .int 0 0] }).get? b = some o := fun b o e => Heap.get?_push_of_some _ e
  have hlt : l < s.heap.objs.size := Heap.lt_size hl
  have key := upd_loopT (prog := prog) (w := w) (A := A.in1) (R := wants (fun r s₂ => r = .none ∧ Q (.ref s.heap.objs.size) s₂) E) (S := s.heap.objs.size) (I := h1.objs.size) (l := l) (items := items) (res := Value.none) (by show A.units + 1 + 1 < cLine; omega) hh
    (Nat.ne_of_lt (Nat.lt_trans hlt hS1)) (Nat.ne_of_lt hS1) (Nat.ne_of_gt hlt) prs 0 [] 0 0
    { s with heap := h1.push { cls := .type "list_iterator", data := .fields #[.ref l, .int 0 0] }, toks := tk1 } (by rw [hsz, Nat.zero_add]) (by rw [List.length_nil, Nat.zero_add]; exact hln) (fun p hp => by cases hp)
    (fun j q e => by
      obtain ⟨b, e1, e2, e3⟩ := ht j q e
      have hb : b < s.heap.objs.size := e2.lt
      have hkb : q.2.1 < s.heap.objs.size := by
        obtain ⟨o', _, _, ho', _⟩ := id e3
        exact Heap.lt_size ho'
      exact ⟨b, by rw [Nat.zero_add]; exact e1, Nat.ne_of_lt hb, Nat.ne_of_lt (Nat.lt_trans hb hS1), e2.keeps fun c o z => k2 _ _ (hk1 _ _ (k0 _ _ z)), Nat.ne_of_lt hkb, Nat.ne_of_lt (Nat.lt_trans hkb hS1), tk_ext e3 fun o z => k2 _ _ (hk1 _ _ (k0 _ _ z))⟩)
    ⟨_, Heap.get?_push_size _ rfl, rfl, rfl⟩ (hl1.at fun o e => k2 _ _ e) (by
      obtain ⟨o, es, ep, ho, h2, h3, h4, _, h6⟩ := hnew
      exact ⟨o, es, ep, k2 _ _ (hk1 _ _ ho), h2, h3, h4, (fun p hp => by cases hp), h6⟩)
    (fun h' tk hd' k => ⟨rfl, h h' tk hd' fun b o e => k b o (Nat.ne_of_lt (Heap.lt_size e)) (Nat.ne_of_lt (Nat.lt_trans (Heap.lt_size e) hS1)) (k2 _ _ (hk1 _ _ (k0 _ _ e)))⟩)
  first
    | exact wpAny_pure ⟨plainId_quiet ud_plain _, key⟩
    | exact wpAny_bind (wpAny_pure (wpAny_pure ⟨plainId_quiet ud_plain _, key⟩))
end
/-- an item: a tuple of a key and a value -/
structure DIt where
  p : Addr
  kb : Addr
  k : List Key
  v : V
def mergeT (acc : List (List Key × V)) (l : List DIt) : List (List Key × V) := l.foldl (fun acc x => putK acc x.k x.v) acc
def rDictT (K : PySem.W.Frag) : List V → Hp → VK → Prop := fun xs H Q => ∃ (a : Addr) (its : List DIt), xs = [.ref a] ∧ SqL K H a (its.map fun x => V.ref x.p) ∧ (∀ x, x ∈ its → H x.p = some (.tup [.ref x.kb, x.v]) ∧ H x.kb = some (.tup (x.k.map kV))) ∧
  ∀ p, H p = none → Q (.ref p) (upd H p (.dT (mergeT [] its)))
theorem length_mergeT : ∀ (its : List DIt) (acc : List (List Key × V)), (mergeT acc its).length ≤ acc.length + its.length
  | [], acc => Nat.le_refl _
  | x :: its, acc => by
    have := length_mergeT its (putK acc x.k x.v)
    have := length_putK acc x.k x.v
    show (mergeT (putK acc x.k x.v) its).length ≤ _
    rw [List.length_cons]
    omega
section
variable {X : Cx}
theorem its_of {pins : List (Addr × Obj)} {σ : L2.St} {H : Hp} {s : Shared} (I : Inv X pins σ H s) : ∀ {its : List DIt}, (∀ x, x ∈ its → H x.p = some (.tup [.ref x.kb, x.v]) ∧ H x.kb = some (.tup (x.k.map kV))) →
    ∃ prs : List KPr, prs.length = its.length ∧ (∀ (j : Nat) (q : KPr), prs[j]? = some q → ∃ x, its[j]? = some x ∧ IsTup s.heap x.p #[.ref q.2.1, q.2.2] ∧ (tupleKind (mixKind X.prog X.w)).is s.heap q.1 q.2.1) ∧ ∀ (kvs : List (List Key × V)) (xs : List KPr), KT H kvs xs → KT H (mergeT kvs its) (mergedH xs prs)
  | [], _ => ⟨[], rfl, fun j q e => by simp at e, fun kvs xs r => r⟩
  | x :: its, h => by
    obtain ⟨prs, l, f, m⟩ := its_of I (its := its) fun y hy => h y (List.mem_cons_of_mem _ hy)
    obtain ⟨hp, hk⟩ := h x List.mem_cons_self
    obtain ⟨us, rv, ht, _⟩ := I.tuple (SqT.of hp : SqT X.K H x.p _)
    obtain ⟨u, y, ei, ru, ry⟩ := vals2 rv
    subst ei
    cases ru
    refine ⟨(x.k, x.kb, y) :: prs, by rw [List.length_cons, List.length_cons, l], fun j q e => ?_, fun kvs xs r => ?_⟩
    · cases j with
      | zero =>
        cases e
        exact ⟨x, rfl, ht, key_of I.hok hk⟩
      | succ j => exact f j q e
    · exact m (putK kvs x.k x.v) (storedH xs x.k x.kb y) (r.put x.k hk ry)
theorem call_dictT (hcalm : X.calm = true) (hu : X.A.units + 2 < cLine) : CallR X (.type "dict") (rDictT X.K) := by
  intro pins s σ H xs us Q I r q
  obtain ⟨a, its, ex, hq, hp, q⟩ := q
  subst ex
  obtain ⟨u, eu, rx⟩ := vals1 r
  subst eu
  cases rx
  obtain ⟨vs, rv, pl, hz⟩ := I.list hq
  have ei : vs = (its.map fun x => x.p).map Value.ref := refs_at (by rw [List.map_map]; exact rv)
  subst ei
  obtain ⟨⟨cls, dd, dat, sl⟩, n, ho, hc, hd, hdat⟩ := pl
  obtain ⟨prs, hl, hpr, hm⟩ := its_of I hp
  simp only at hc hd hdat
  rw [List.length_map] at hz
  refine call_dict_pairsT (prs := prs) hu (I.ok.hd hcalm) ho hc hd hdat (by simp [hl]) (by rw [hl]; exact hz) (fun j q' e => ?_) fun h' tk hd' k => ?_
  · obtain ⟨x, e1, e2, e3⟩ := hpr j q' e
    exact ⟨x.p, by simp [e1], e2, e3⟩
  · have hsys : (s.heap.objs.size == sysModules) = false := beq_eq_false_iff_ne.mpr (Nat.ne_of_gt I.big)
    have hlen : (mergeT [] its).length ≤ sizeLine := by
      have := length_mergeT its []
      rw [List.length_nil, Nat.zero_add] at this
      omega
    have nf := I.hok.fresh (Nat.le_refl s.heap.objs.size)
    obtain ⟨o, es, ep, g1, g2, g3, g4, _, g6⟩ := hd'
    exact ⟨.ref s.heap.objs.size, upd H s.heap.objs.size (.dT (mergeT [] its)), I.laid (t' := tk) k (Nat.le_refl _) (show ObjOk X.prog X.w _ _ _ (.dT (mergeT [] its)) from ⟨hlen, hsys, _, (hm [] [] .nil).keeps fun b ys e => by rw [upd_ne (ne_of_none e nf)]; exact e, o, es, ep, g1, g2, g3, g4, g6⟩), rfl, q _ nf⟩
end
end Kx
/-! Values in a plain world. -/
namespace K12
open PySem PySem.Spec PyProof.Rows L2 Kx
abbrev Tabl := Str → List (List Key × V)
/-- the table of nm, among those of kvs -/
def TblAt (H : Hp) (kvs : List (Key × V)) (tab : Tabl) (nm : Str) : Prop := ∃ (q dd : Addr) (v0 : V), valV kvs (.inr nm) = some (.ref q) ∧ H q = some (.tup [v0, .ref dd]) ∧ H dd = some (.dT (tab nm)) ∧ ∀ p, p ∈ tab nm → ∃ i : Int, p.2 = .int i
/-- a world at x that has the names of rs -/
def Wd (H : Hp) (x : V) (rs : List NK) (tab : Tabl) : Prop := ∃ (p td : Addr) (v0 : V) (kvs : List (Key × V)), x = .ref p ∧ H p = some (.tup [v0, .int 0, .ref td]) ∧ H td = some (.dK kvs) ∧ ∀ r, r ∈ rs → TblAt H kvs tab r.1
theorem TblAt.up {H H' : Hp} {kvs : List (Key × V)} {tab : Tabl} {nm : Str} (h : TblAt H kvs tab nm) (s : Same H H') : TblAt H' kvs tab nm := by
  obtain ⟨q, dd, v0, a, b, c, d⟩ := h
  exact ⟨q, dd, v0, a, s _ _ b, s _ _ c, d⟩
theorem Wd.up {H H' : Hp} {x : V} {rs : List NK} {tab : Tabl} (h : Wd H x rs tab) (s : Same H H') : Wd H' x rs tab := by
  obtain ⟨p, td, v0, kvs, a, b, c, d⟩ := h
  exact ⟨p, td, v0, kvs, a, s _ _ b, s _ _ c, fun r hr => (d r hr).up s⟩
def intOf : Option V → Int
  | some (.int i) => i
  | _ => 0
mutual
/-- the value of a term -/
def valD (tab : Tabl) : PyData → Int
  | .tuple (d :: ds) => intOf (valV (tab (headD d)) (valAll tab ds))
  | _ => 0
def valAll (tab : Tabl) : List PyData → List Key
  | [] => []
  | d :: ds => .inl (valD tab d) :: valAll tab ds
end
theorem valAll_map (tab : Tabl) : ∀ ds : List PyData, valAll tab ds = ds.map fun d => (.inl (valD tab d) : Key)
  | [] => rfl
  | d :: ds => by rw [valAll, valAll_map tab ds]; rfl
section
variable {P : Program} {w : World} {K : PySem.W.Frag} {mg : Str → Option Value} {base : Heap}
def spAt (K : PySem.W.Frag) : Sp := fun vs H Q _ => ∃ (x : V) (nm : Str) (b : Addr) (ks : List Key) (rs : List NK) (tab : Tabl) (n : Nat), vs = [x, .str nm, .ref b] ∧ Wd H x rs tab ∧ (nm, n) ∈ rs ∧ H b = some (.tup (ks.map kV)) ∧ Q (.int (intOf (valV (tab nm) ks))) H
theorem ok_at (T : Tx K mg) : FnOk P w K mg base CX0 1 T.a_law_at T.d_law_at ["world", "name", "things"] (spAt K) := by
  have nd := sc__law_at.nd
  refine T.f_law_at.ok sc__law_at (fun vs H Q E h => ?_) (fun cdv A outer s H vs Q E hr h => ?_)
  · obtain ⟨x, nm, b, ks, rs, tab, n, rfl, _⟩ := h
    rfl
  obtain ⟨x, nm, b, ks, rs, tab, n, rfl, ⟨p, td, v0, kvs, rfl, hp, htd, all⟩, hn, hb, q⟩ := h
  have hu := hu_of hr
  refine ⟨_, (pss_one (ps_ret (pe_dget2 hu (pe_ix ix_tup (pe_dget hu (pe_ix ix_tup (pv 0) pe_int (fun _ _ => rfl)) (pv 1) (fun _ _ => rfl)) pe_int (fun _ _ => rfl)) (pv 2) (pe_ix ix_tup (pv 0) pe_int (fun _ _ => rfl)) ⟨by rfl, by rfl, by rfl, by rfl⟩))), ?_⟩
  obtain ⟨tq, dd, v1, hv, hq, hdd, hints⟩ := all _ hn
  refine ⟨_, rfl, p, _, 2, .ref td, rfl, rfl, SqT.of hp, atI_nat (j := 2) rfl, _, rfl, td, .ref tq, rfl, ?_, tq, _, 1, .ref dd, rfl, rfl, SqT.of hq, atI_nat (j := 1) rfl, dd, rfl, ?_, _, rfl, _, rfl, p, _, 1, .int 0, rfl, rfl, SqT.of hp, atI_nat (j := 1) rfl, valV (tab nm) ks, ?_, ?_⟩
  · rw [← hv]
    exact DGet.k (k := .inr nm) htd
  · exact .inr ⟨_, .inl hdd⟩
  · exact DGet.t hdd hb
  · cases h : valV (tab nm) ks with
    | none =>
      rw [h] at q
      exact q
    | some v =>
      obtain ⟨i, hi⟩ := hints _ (mem_of_val h)
      rw [h] at q
      rw [show v = .int i from hi] at q ⊢
      exact q
end
end K12
namespace K12
open PySem PySem.Spec PyProof.Rows L2 Kx
section
variable {P : Program} {w : World} {K : PySem.W.Frag} {mg : Str → Option Value} {base : Heap}
def spVal (K : PySem.W.Frag) (n : Nat) : Sp := fun vs H Q _ => ∃ (x y : V) (d : PyData) (rs : List NK) (tab : Tabl), vs = [x, y] ∧ Wd H x rs tab ∧ Dx K H y d ∧ Tm rs n d ∧ ∀ H', Same H H' → Q (.int (valD tab d)) H'
theorem ok_val (T : Tx K mg) : ∀ n, FnOk P w K mg base CX0 (n + 2) T.a_law_value T.d_law_value ["world", "term"] (spVal K n)
  | 0 => by
    refine T.f_law_value.ok sc__law_value (fun vs H Q E h => ?_) (fun cdv A outer s H vs Q E hr h => ?_)
    · obtain ⟨x, y, d, rs, tab, rfl, _⟩ := h
      rfl
    · exfalso
      obtain ⟨x, y, d, rs, tab, rfl, _, _, tm, _⟩ := h
      have dp := tm.dp
      obtain ⟨z, ds, rfl, _⟩ := formed_shape tm.fm
      simp [PyData.depth] at dp
  | n + 1 => by
    have nd := sc__law_value.nd
    have GA := ok_at (P := P) (w := w) (base := base) T
    have GV := ok_val T n
    refine T.f_law_value.ok sc__law_value (fun vs H Q E h => ?_) (fun cdv A outer s H vs Q E hr h => ?_)
    · obtain ⟨x, y, d, rs, tab, rfl, _⟩ := h
      rfl
    obtain ⟨x, y, d, rs, tab, rfl, wd, dy, tm, q⟩ := h
    refine ⟨_, (pss_one (ps_ret (pe_call GA (hr.mono (by omega)) (by rfl) T.g_law_at T.f_law_at.kp T.n_law_at .nil pass0 (pa_cons (pv 0) (pa_cons (pe_ix ix_tup (pv 1) pe_int (fun _ _ => rfl)) (pa_cons (pe_callTy call_tuple_of (by rfl) T.b_tuple (by decide +kernel) (pa_cons (pe_lc (own := [("part", 2)]) (g := (gName 2)) (tt := tYes) (by rfl) nd (pi_tup (pe_slice sl_tupA (pv 1) (po_some pe_int) po_none)) (blkOk_by (own := [("part", 2)]) (N := N__law_value) (sc := defScope s__law_value) (by decide +kernel)) (fun _ _ _ _ _ => pg_name (i := 2) nd rfl (.inl rfl)) (fun _ _ _ _ _ => pts_nil) (fun _ _ _ _ _ => (pe_call GV (hr.mono (by omega)) (by rfl) T.g_law_value T.f_law_value.kp T.n_law_value .nil pass0 (pa_cons (pv 0) (pa_cons (pv 2) pa_nil))))) pa_nil)) pa_nil)))))), ?_⟩
    have dp := tm.dp
    have rw0 := tm.rw
    obtain ⟨nm, ds, rfl, l3, hnm, hfa⟩ := formed_shape tm.fm
    cases dy with
    | @tup b xs _ hb hs =>
    cases hs with
    | @cons v0 vs0 _ _ h0 hws =>
    cases h0
    have lw := hws.length
    have dd : PyData.depthAll ds ≤ n := by
      simp only [PyData.depth, PyData.depthAll] at dp
      omega
    refine ⟨_, rfl, _, rfl, b, _, 0, .str nm, rfl, rfl, SqT.of hb, atI_nat (j := 0) rfl, ?_⟩
    refine ⟨_, rfl, 1, rfl, ?_⟩
    dsimp only [tNoPart]
    refine sl_from (S := []) (i := 1) ((Dx.tup hb (.cons (.str nm) hws)).up offs_nil) olds_nil fun y H1 s1 dy => ?_
    have dy := dy.up OffS.all
    rw [List.drop_one, List.tail_cons] at dy
    cases dy with
    | @tup c us _ hc hus =>
    refine ⟨c, rfl, ⟨_, SqT.of hc⟩, fun D nD => ?_⟩
    have lus := hus.length
    refine lc_tup (K := K) (a := c) (xs := us) (fun i H2 => Same H1 H2 ∧ H2 D = some (.lst ((valAll tab (ds.take i)).map kV))) ⟨same_put nD, upd_same⟩ (fun i H2 _ h => SqT.of (h.1 _ _ hc)) ?_ ?_
    · rintro i z H2 hi ⟨s2, e2⟩
      have lt : i < ds.length := by
        rw [← lus]
        exact (List.getElem?_eq_some_iff.mp hi).1
      have gd := List.getElem?_eq_getElem lt
      obtain ⟨v2, hv2, dv2⟩ := hus.get gd
      rw [hi] at hv2
      cases hv2
      have tmi : Tm rs n ds[i] := ⟨formedAll_get hfa gd, fun r hr => rw0 r (by rw [rowsD]; exact List.mem_cons_of_mem _ (rows_side (List.getElem_mem lt) r hr)), Nat.le_trans (depthAll_get gd) dd⟩
      refine ⟨rfl, (iteT (B := False) ?_ : if true = true then _ else False)⟩
      refine ⟨_, rfl, _, rfl, x, z, _, rs, tab, rfl, wd.up (s1.trans s2), dv2.up s2, tmi, fun H3 s3 => ⟨_, s3 _ _ e2, ?_, fun o ob ho => ?_, ?_⟩⟩
      · rw [valAll_map, List.length_map, List.length_map, List.length_take]
        exact small1000 (by omega)
      · rw [upd_ne (ne_of_none ho nD)]
        exact s3 _ _ (s2 _ _ ho)
      · rw [upd_same, List.take_add_one, gd, valAll_map, valAll_map, List.map_append, List.map_append]
        rfl
    rintro H2 ⟨s2, e2⟩
    rw [lus, List.take_length] at e2
    refine ⟨D, _, rfl, .inl ⟨SqL.of e2, fun t nt => ?_⟩⟩
    have st := same_put (o := .tup ((valAll tab ds).map kV)) nt
    refine ⟨x, nm, t, valAll tab ds, rs, tab, ds.length, rfl, wd.up (s1.trans (s2.trans st)), rw0 _ (by simp [rowsD, headD]), upd_same, ?_⟩
    exact q _ (s1.trans (s2.trans st))
/-- whether a fact holds where terms have these values -/
def trueD (tab : Tabl) (L : List PyData) (c : PyData) : Prop := (∀ a b, PyData.tuple [a, b] ∈ L → valD tab a = valD tab b) → ∃ a b, c = .tuple [a, b] ∧ valD tab a = valD tab b
def spTrue (K : PySem.W.Frag) : Sp := fun vs H Q _ => ∃ (x y : V) (L : List PyData) (c : PyData) (rs : List NK) (m : Nat) (tab : Tabl), vs = [x, y] ∧ Wd H x rs tab ∧ Dx K H y (.tuple [.tuple L, c]) ∧ Fa rs 2 m L c ∧ ∀ b H', Same H H' → (b = true ↔ trueD tab L c) → Q (.bl b) H'
theorem ok_true (T : Tx K mg) : FnOk P w K mg base CX0 6 T.a_law_true T.d_law_true ["world", "fact"] (spTrue K) := by
  have nd := sc__law_true.nd
  have GV := ok_val (P := P) (w := w) (base := base) T 2
  refine T.f_law_true.ok sc__law_true (fun vs H Q E h => ?_) (fun cdv A outer s H vs Q E hr h => ?_)
  · obtain ⟨x, y, L, c, rs, m, tab, rfl, _⟩ := h
    rfl
  obtain ⟨x, y, L, c, rs, m, tab, rfl, wd, dy, fa, q⟩ := h
  refine ⟨_, (pss_cons (ps_for PassesOwn.never rfl (pi_tup (pe_ix ix_tup (pv 1) pe_int (fun _ _ => rfl))) (pg_tup rfl (pgs_cons (pg_name (i := 2) nd rfl (.inl rfl)) (pgs_cons (pg_name (i := 3) nd rfl (.inl rfl)) pgs_nil))) (pss_one (ps_if (pt_cmpR op_ne (pe_call GV (hr.mono (by omega)) (by rfl) T.g_law_value T.f_law_value.kp T.n_law_value .nil pass0 (pa_cons (pv 0) (pa_cons (pv 2) pa_nil))) (pe_call GV (hr.mono (by omega)) (by rfl) T.g_law_value T.f_law_value.kp T.n_law_value .nil pass0 (pa_cons (pv 0) (pa_cons (pv 3) pa_nil))) (nomark _)) (pss_one (ps_ret pe_bl)) pss_nil)))
      (pss_one (ps_ret (pe_and (pe_cmpR op_notN (pe_ix ix_tup (pv 1) pe_int (fun _ _ => rfl)) pe_non (nomark _)) (pe_one (pe_cmpR op_eq (pe_call GV (hr.mono (by omega)) (by rfl) T.g_law_value T.f_law_value.kp T.n_law_value .nil pass0 (pa_cons (pv 0) (pa_cons (pe_ix ix_tup (pe_ix ix_tup (pv 1) pe_int (fun _ _ => rfl)) pe_int (fun _ _ => rfl)) pa_nil))) (pe_call GV (hr.mono (by omega)) (by rfl) T.g_law_value T.f_law_value.kp T.n_law_value .nil pass0 (pa_cons (pv 0) (pa_cons (pe_ix ix_tup (pe_ix ix_tup (pv 1) pe_int (fun _ _ => rfl)) pe_int (fun _ _ => rfl)) pa_nil))) (nomark _))))))), ?_⟩
  obtain ⟨f, t, us, v, rfl, hf, ht, hus, hv⟩ := dx_fact dy
  have lu := hus.length
  refine ⟨_, rfl, f, _, 0, .ref t, rfl, rfl, SqT.of hf, atI_nat (j := 0) rfl, t, rfl, ⟨_, SqT.of ht⟩, for_tup (K := K) (a := t) (xs := us) (fun i σ G => Same H G ∧ (∀ a b, PyData.tuple [a, b] ∈ L.take i → valD tab a = valD tab b) ∧ ∃ y2 y3, σ = [some x, some (.ref f), y2, y3]) ⟨Same.refl H, (fun a b h => by rw [List.take_zero] at h; cases h), none, none, rfl⟩ (fun i σ G _ h => SqT.of (h.1 _ _ ht)) ?_ ?_⟩
  · rintro i z σ G hi ⟨sG, eq, y2, y3, rfl⟩
    have lt : i < L.length := by
      rw [← lu]
      exact (List.getElem?_eq_some_iff.mp hi).1
    have gd := List.getElem?_eq_getElem lt
    obtain ⟨v2, hv2, dv2⟩ := hus.get gd
    rw [hi] at hv2
    cases hv2
    have mi := List.getElem_mem lt
    obtain ⟨a, b, eab, ha, hb, _⟩ := (fa.ps _ mi).ex
    rw [eab] at dv2 gd mi
    obtain ⟨q0, u0, v3, rfl, hq0, du, dv3⟩ := dx_couple (dv2.up sG)
    refine ⟨q0, _, rfl, SqT.of hq0, rfl, _, _, rfl, _, _, rfl, rfl, ?_⟩
    refine ⟨_, rfl, _, rfl, x, u0, a, rs, tab, rfl, wd.up sG, du, ha, fun G1 t1 => ⟨_, rfl, _, rfl, x, v3, b, rs, tab, rfl, wd.up (sG.trans t1), dv3.up t1, hb, fun G2 t2 => ⟨rfl, _, rfl, ?_⟩⟩⟩
    rw [dec_int]
    have sA := sG.trans (t1.trans t2)
    by_cases e : valD tab a = valD tab b
    · rw [show (!(valD tab a == valD tab b)) = false by simp [e]]
      refine iteF ⟨sA, fun a' b' h => ?_, _, _, rfl⟩
      rw [List.take_add_one, gd] at h
      rcases List.mem_append.mp h with h | h
      · exact eq a' b' h
      · simp only [Option.toList_some, List.mem_singleton, PyData.tuple.injEq, List.cons.injEq, and_true] at h
        rw [h.1, h.2]
        exact e
    · rw [show (!(valD tab a == valD tab b)) = true by simp [e]]
      exact iteT (q true _ sA ⟨fun _ h => absurd (h a b mi) e, fun _ => rfl⟩)
  · rintro σ G ⟨sG, eq, y2, y3, rfl⟩
    rw [lu, List.take_length] at eq
    have hf1 := sG _ _ hf
    refine ⟨_, rfl, f, _, 1, v, rfl, rfl, SqT.of hf1, atI_nat (j := 1) rfl, rfl, _, rfl, ?_⟩
    by_cases ev : v = .non
    · have ee := (dx_nil hv).mpr ev
      rw [decide_eq_true ev]
      refine iteF (q false _ sG ⟨(fun z => by cases z), fun z => ?_⟩)
      obtain ⟨a, b, e, _⟩ := z eq
      rw [ee] at e
      cases e
    · have ee : c ≠ .none := fun z => ev ((dx_nil hv).mp z)
      rw [decide_eq_false ev]
      obtain ⟨a, b, rfl, ha, hb, _⟩ := (fa.c.elim (fun z => absurd z ee) id).ex
      obtain ⟨q0, u0, v3, rfl, hq0, du, dv3⟩ := dx_couple hv
      refine iteT ⟨_, rfl, _, rfl, f, _, 1, .ref q0, rfl, rfl, SqT.of hf1, atI_nat (j := 1) rfl, q0, _, 0, u0, rfl, rfl, SqT.of (sG _ _ hq0), atI_nat (j := 0) rfl, x, u0, a, rs, tab, rfl, wd.up sG, du.up sG, ha, fun G1 t1 => ⟨_, rfl, _, rfl, f, _, 1, .ref q0, rfl, rfl, SqT.of (t1 _ _ hf1), atI_nat (j := 1) rfl, q0, _, 1, v3, rfl, rfl, SqT.of (t1 _ _ (sG _ _ hq0)), atI_nat (j := 1) rfl, x, v3, b, rs, tab, rfl, wd.up (sG.trans t1), dv3.up (sG.trans t1), hb, fun G2 t2 => ⟨rfl, ?_⟩⟩⟩
      rw [dec_int]
      refine q _ _ (sG.trans (t1.trans t2)) ?_
      rw [beq_iff_eq]
      constructor
      · exact fun e _ => ⟨a, b, rfl, e⟩
      · intro z
        obtain ⟨a', b', e, h⟩ := z eq
        simp only [PyData.tuple.injEq, List.cons.injEq, and_true] at e
        rw [e.1, e.2]
        exact h
/-- a cut holds where both facts do -/
theorem cut_true {rs : List NK} {m k : Nat} {L M N : List PyData} {c e e2 : PyData} (tab : Tabl) (F : Func rs) (fL : Fa rs 2 m L c) (fM : Fa rs 2 k M e) (h : CutD L c M e (.tuple [.tuple N, e2])) (h1 : trueD tab L c) (h2 : trueD tab M e) : trueD tab N e2 := by
  rcases h with ⟨_, z⟩ | ⟨ne, mem, N', e', fo, h⟩
  · cases z
  rcases h with ⟨_, _, z⟩ | ⟨_, z⟩
  · cases z
  simp only [PyData.tuple.injEq, List.cons.injEq, and_true] at z
  obtain ⟨rfl, rfl⟩ := z
  intro all
  have nrm : e ≠ .none → ∃ a b, e = .tuple [a, b] ∧ tx a < tx b := fun ne => by
    obtain ⟨a, b, rfl, ha, hb, l⟩ := (fM.c.elim (fun z => absurd z ne) id).ex
    exact ⟨a, b, rfl, (tx_lt ha.fm hb.fm (rows_in ha hb F)).mpr l⟩
  obtain ⟨L', pL, z⟩ := fod_shape fo nrm
  simp only [PyData.tuple.injEq, List.cons.injEq, and_true] at z
  obtain ⟨rfl, rfl⟩ := z
  have inN : ∀ a b, PyData.tuple [a, b] ∈ L ++ (M.filter fun z => !PyData.eqv z c) → valD tab a = valD tab b := fun a b hab => by
    have pr : Pr rs 2 (.tuple [a, b]) := (List.mem_append.mp hab).elim (fL.ps _) fun h => fM.ps _ (List.mem_filter.mp h).1
    exact all a b ((pL.mem _).mpr ⟨a, b, rfl, (pr.tx F).1, .inl hab⟩)
  obtain ⟨ca, cb, ec, hc⟩ := h1 fun a b hab => inN a b (List.mem_append_left _ hab)
  refine h2 fun a b hab => ?_
  cases q : PyData.eqv (.tuple [a, b]) c with
  | false => exact inN a b (List.mem_append_right _ (List.mem_filter.mpr ⟨hab, by rw [q]; rfl⟩))
  | true =>
    have pc := fL.c.elim (fun z => absurd z ne) id
    have := (pr_eqv (fM.ps _ hab) pc).mp q
    rw [ec] at this
    simp only [PyData.tuple.injEq, List.cons.injEq, and_true] at this
    rw [this.1, this.2]
    exact hc
end
end K12
/-! _law_drawn_world. -/
namespace K12
open PySem PySem.Spec PyProof.Rows L2 Kx
/-- keys of a table, in a list -/
abbrev Kq := Addr × List Key
def KeysIn (H : Hp) (l : Addr) (n : Nat) (ks : List Kq) : Prop := H l = some (.lst (ks.map fun k => V.ref k.1)) ∧ ∀ k, k ∈ ks → H k.1 = some (.tup (k.2.map kV)) ∧ k.2.length ≤ n
theorem KeysIn.up {H H' : Hp} {l : Addr} {n : Nat} {ks : List Kq} (h : KeysIn H l n ks) (s : Same H H') : KeysIn H' l n ks := ⟨s _ _ h.1, fun k hk => ⟨s _ _ (h.2 k hk).1, (h.2 k hk).2⟩⟩
/-- the heap, a list changed that was not there before -/
theorem KeysIn.lst {H : Hp} {l l2 : Addr} {n : Nat} {ks : List Kq} {xs ys : List V} (h : KeysIn H l n ks) (e : H l2 = some (.lst xs)) (ne : l ≠ l2) : KeysIn (upd H l2 (.lst ys)) l n ks := ⟨by rw [upd_ne ne]; exact h.1, fun k hk => ⟨by rw [upd_ne (ne_of (h.2 k hk).1 e (fun z => nomatch z))]; exact (h.2 k hk).1, (h.2 k hk).2⟩⟩
theorem TblAt.but {H H' : Hp} {kvs : List (Key × V)} {tab : Tabl} {nm : Str} {a : Addr} {n : Nat} (h : TblAt H kvs tab nm) (b : But a H H') (d : Dice H a n) : TblAt H' kvs tab nm := by
  obtain ⟨q, dd, v0, h1, h2, h3, h4⟩ := h
  obtain ⟨_, _, _, hz, _⟩ := d
  exact ⟨q, dd, v0, h1, b _ _ h2 (ne_of h2 hz (fun e => nomatch e)), b _ _ h3 (ne_of h3 hz (fun e => nomatch e)), h4⟩
section
variable {P : Program} {w : World} {K : PySem.W.Frag} {mg : Str → Option Value} {base : Heap}
def spDw (K : PySem.W.Frag) : Sp := fun vs H Q _ => ∃ (a b : Addr) (m : Nat) (zs : List Rw), vs = [.ref a, .ref b] ∧ Dice H a m ∧ m + 700 < cap ∧ RowsIn H b zs ∧ b ≠ a ∧ Good (zs.map Prod.snd) ∧
  ∀ (x : V) (tab : Tabl) H', But a H H' → Dice H' a (m + 700) → Wd H' x (zs.map Prod.snd) tab → Q x H'
theorem ok_dw (T : Tx K mg) : FnOk P w K mg base CX0 3 T.a_law_drawn_world T.d_law_drawn_world ["dice", "known"] (spDw K) := by
  have nd := sc__law_drawn_world.nd
  have GR := ok_roll (P := P) (w := w) (base := base) T
  refine T.f_law_drawn_world.ok sc__law_drawn_world (fun vs H Q E h => ?_) (fun cdv A outer s H vs Q E hr h => ?_)
  · obtain ⟨a, b, m, zs, rfl, _⟩ := h
    rfl
  obtain ⟨a, b, m, zs, rfl, hd, hm, ri, nba, gd, q⟩ := h
  have hu := hu_of hr
  unfold cap at hm
  refine ⟨_, (pss_cons (ps_asg (pe_tup (pa_cons (pe_op op_add pe_int (pe_call GR (hr.mono (by omega)) (by rfl) T.g_law_roll T.f_law_roll.kp T.n_law_roll .nil pass0 (pa_cons (pv 0) (pa_cons pe_int pa_nil)))) (pa_cons pe_dnewK pa_nil))) (pg_tup rfl (pgs_cons (pg_name (i := 2) nd rfl (.inr rfl)) (pgs_cons (pg_name (i := 3) nd rfl (.inl rfl)) pgs_nil))))
      (pss_cons (ps_for PassesOwn.never rfl (pi_list (pv 1)) (pg_tup rfl (pgs_cons (pg_name (i := 4) nd rfl (.inl rfl)) (pgs_cons (pg_name (i := 5) nd rfl (.inl rfl)) pgs_nil))) (pss_cons (ps_set (i := 6) nd rfl (.inl rfl) (pe_lst (pa_cons (pe_tup pa_nil) pa_nil)))
      (pss_cons (ps_for PassesOwn.never rfl (pi_range1 (by rfl) T.b_range (pa_cons (pv 5) pa_nil)) (pg_name (i := 7) nd rfl (.inl rfl)) (pss_cons (ps_set (i := 8) nd rfl (.inl rfl) (pe_lst pa_nil))
      (pss_cons (ps_for PassesOwn.never rfl (pi_list (pv 6)) (pg_name (i := 9) nd rfl (.inr rfl)) (pss_one (ps_expr (pe_bm PySem.F.plainAttrs_list PySem.F.slot_list_extend PySem.F.type_list_extend mt_extend (pv 8) (pa_cons (pe_lc (own := [("thing", 10)]) (g := (gName 10)) (tt := tYes) (by rfl) nd (pi_range1 (by rfl) T.b_range (pa_cons (pv 2) pa_nil)) (blkOk_by (own := [("thing", 10)]) (N := N__law_drawn_world) (sc := defScope s__law_drawn_world) (by decide +kernel)) (fun _ _ _ _ _ => pg_name (i := 10) nd rfl (.inl rfl)) (fun _ _ _ _ _ => pts_nil) (fun _ _ _ _ _ => (pe_op (r := rCatA K) op_catA (pv 9) (pe_tup (pa_cons (pv 10) pa_nil))))) pa_nil)))))
      (pss_one (ps_set (i := 6) nd rfl (.inl rfl) (pv 8))))))
      (pss_one (ps_asg (pe_tup (pa_cons (pv 5) (pa_cons (pe_callTy (call_dictT rfl (by have := room200 hr; show (A.deeper _).units + 2 < cLine; omega)) (by rfl) T.b_dict (by decide +kernel) (pa_cons (pe_lc (own := [("key", 9)]) (g := (gName 9)) (tt := tYes) (by rfl) nd (pi_list (pv 6)) (blkOk_by (own := [("key", 9)]) (N := N__law_drawn_world) (sc := defScope s__law_drawn_world) (by decide +kernel)) (fun _ _ _ _ _ => pg_name (i := 9) nd rfl (.inl rfl)) (fun _ _ _ _ _ => pts_nil) (fun _ _ _ _ _ => (pe_tup (pa_cons (pv 9) (pa_cons (pe_call GR (hr.mono (by omega)) (by rfl) T.g_law_roll T.f_law_roll.kp T.n_law_roll .nil pass0 (pa_cons (pv 0) (pa_cons (pv 2) pa_nil))) pa_nil))))) pa_nil)) pa_nil))) (pg_sub (pv 3) (pv 4) (set_dict hu)))))))
      (pss_one (ps_ret (pe_tup (pa_cons (pv 2) (pa_cons pe_int (pa_cons (pv 3) pa_nil)))))))), ?_⟩
  have lzs : zs.length ≤ 20 := by
    have := gd.few
    rwa [List.length_map] at this
  refine ⟨_, rfl, a, m, 2, rfl, hd, by unfold cap; omega, by decide, by decide, fun r H1 b1 dd1 r0 r1 => ⟨2, r, rfl, rfl, fun td ntd => ⟨by show 2 ≤ sizeLine; decide, fun p np => ⟨p, _, rfl, SqT.of upd_same, rfl, _, _, rfl, _, _, rfl, rfl, ?_⟩⟩⟩⟩
  obtain ⟨sz, esz, lsz⟩ : ∃ sz : Nat, 2 + r = (sz : Int) ∧ sz ≤ 3 ∧ 0 < sz := ⟨(2 + r).toNat, by omega, by omega, by omega⟩
  rw [show (fun i j : Int => V.int (i + j)) 2 r = V.int (sz : Int) from congrArg V.int esz]
  have s2 := same_put (o := .dK []) ntd
  have s3 := same_put (o := .tup [.int (sz : Int), .ref td]) np
  have nta := dd1.ne ntd
  have nHt := But.free b1 nta ntd
  have etd := s3 _ _ (upd_same : (upd H1 td (.dK [])) td = _)
  have bA : But a H (upd (upd H1 td (.dK [])) p (.tup [.int (sz : Int), .ref td])) := b1.trans (But.of (s2.trans s3))
  have dA := dd1.up (s2.trans s3)
  have rA := (ri.but b1 hd nba).up (s2.trans s3)
  generalize upd (upd H1 td (.dK [])) p (.tup [.int (sz : Int), .ref td]) = H2 at etd bA dA rA ⊢
  clear np s2 s3 ntd
  refine ⟨_, rfl, b, rfl, ⟨_, SqL.of rA.1⟩, for_list (K := K) (a := b) (xs := zs.map fun z => V.ref z.1) (fun i σ G => But a H G ∧ Dice G a (m + 1 + 30 * i) ∧ RowsIn G b zs ∧ (∃ (kvs : List (Key × V)) (tab : Tabl), G td = some (.dK kvs) ∧ kvs.length ≤ i ∧ ∀ (j : Nat) z, j < i → zs[j]? = some z → TblAt G kvs tab z.2.1) ∧ ∃ y4 y5 y6 y7 y8 y9, σ = [some (.ref a), some (.ref b), some (.int (sz : Int)), some (.ref td), y4, y5, y6, y7, y8, y9, none])
    ⟨bA, dA, rA, ⟨[], fun _ => [], etd, Nat.le_refl _, fun j z h => absurd h (Nat.not_lt_zero _)⟩, none, none, none, none, none, none, rfl⟩ (fun i σ G _ h => SqL.of h.2.2.1.1) ?_ ?_⟩
  · rintro i y σ G hi ⟨bG, dG, rG, ⟨kvs, tab, etd, lk, at0⟩, y4, y5, y6, y7, y8, y9, rfl⟩
    rw [List.getElem?_map] at hi
    obtain ⟨z, hz, rfl⟩ := Option.map_eq_some_iff.mp hi
    have lti : i < zs.length := (List.getElem?_eq_some_iff.mp hz).1
    have ez := rG.2 z (List.mem_of_getElem? hz)
    have gz := gd.nm z.2 (List.mem_map.mpr ⟨z, List.mem_of_getElem? hz, rfl⟩)
    obtain ⟨za, nm, cnt⟩ := z
    dsimp only at gz ez hz
    refine ⟨za, _, rfl, SqT.of ez, rfl, _, _, rfl, _, _, rfl, rfl, ?_⟩
    refine ⟨by show 0 ≤ sizeLine; decide, fun t0 nt0 => ⟨by show 1 ≤ sizeLine; decide, fun l0 nl0 => ?_⟩⟩
    have s4 := (same_put (o := .tup []) nt0).trans (same_put (o := .lst [.ref t0]) nl0)
    have k0 : KeysIn (upd (upd G t0 (.tup [])) l0 (.lst [.ref t0])) l0 0 [(t0, [])] := ⟨upd_same, fun k hk => by
      rw [List.mem_singleton.mp hk]
      exact ⟨same_put (o := .lst [.ref t0]) nl0 _ _ upd_same, Nat.zero_le _⟩⟩
    have nl0G : G l0 = none := by
      cases e : G l0 with
      | none => rfl
      | some o =>
        have := same_put (o := .tup []) nt0 _ _ e
        rw [nl0] at this
        cases this
    -- the keys
    refine ⟨_, rfl, (cnt : Int), rfl, by omega, by omega, ?_⟩
    rw [Int.toNat_natCast]
    refine for_range (fun j σ G1 => Same G G1 ∧ (∃ (l : Addr) (ks : List Kq), KeysIn G1 l j ks ∧ G l = none ∧ ks.length ≤ 3 ^ j ∧ ∃ y7 y8 y9, σ = [some (.ref a), some (.ref b), some (.int (sz : Int)), some (.ref td), some (.str nm), some (.int (cnt : Int)), some (.ref l), y7, y8, y9, none])) ⟨s4, l0, [(t0, [])], k0, nl0G, Nat.le_refl _, _, _, _, rfl⟩ ?_ ?_
    · rintro j σ G1 hj ⟨sG1, l, ks, kl, nl, lks, y7, y8, y9, rfl⟩
      have p27 : 3 ^ j ≤ 9 := by
        have : j ≤ 2 := by omega
        match j, this with
        | 0, _ => decide
        | 1, _ => decide
        | 2, _ => decide
      refine ⟨by show 0 ≤ sizeLine; decide, fun l8 nl8 => ?_⟩
      have s5 := same_put (o := .lst []) nl8
      have nl8G : G l8 = none := by
        cases e : G l8 with
        | none => rfl
        | some o => rw [sG1 _ _ e] at nl8; cases nl8
      have ll8 : l ≠ l8 := fun e => by rw [← e, kl.1] at nl8; cases nl8
      have kl5 := kl.up s5
      refine ⟨_, rfl, l, rfl, ⟨_, SqL.of kl5.1⟩, for_list (K := K) (a := l) (xs := ks.map fun k => V.ref k.1) (fun n σ G2 => Same G G2 ∧ KeysIn G2 l j ks ∧ (∃ k2, KeysIn G2 l8 (j + 1) k2 ∧ k2.length ≤ 3 * n) ∧ ∃ y9, σ = [some (.ref a), some (.ref b), some (.int (sz : Int)), some (.ref td), some (.str nm), some (.int (cnt : Int)), some (.ref l), some (.int ((0 : Int) + j)), some (.ref l8), y9, none]) ⟨sG1.trans s5, kl5, ⟨[], ⟨upd_same, fun k hk => by cases hk⟩, Nat.le_refl _⟩, _, rfl⟩ (fun n σ G _ h => SqL.of h.2.1.1) ?_ ?_⟩
      · rintro n y σ G2 hn ⟨sG2, kl2, ⟨k2, kk2, lk2⟩, y9, rfl⟩
        rw [List.getElem?_map] at hn
        obtain ⟨kx, hkx, rfl⟩ := Option.map_eq_some_iff.mp hn
        have ltn : n < ks.length := (List.getElem?_eq_some_iff.mp hkx).1
        obtain ⟨ekx, lkx⟩ := kl2.2 kx (List.mem_of_getElem? hkx)
        refine ⟨_, rfl, .inl ⟨rfl, _, SqL.of kk2.1⟩, _, rfl, (sz : Int), rfl, by omega, by omega, fun D nD => ?_⟩
        rw [Int.toNat_natCast]
        have s6 := same_put (o := .lst []) nD
        refine lc_range (fun i G3 => Same G2 G3 ∧ ∃ kd : List Kq, KeysIn G3 D (j + 1) kd ∧ kd.length = i) ⟨s6, [], ⟨upd_same, fun k hk => by cases hk⟩, rfl⟩ ?_ ?_
        · rintro i G3 hi ⟨sG3, kd, kD, lkd⟩
          refine ⟨rfl, (iteT (B := False) ?_ : if true = true then _ else False)⟩
          refine ⟨_, rfl, _, rfl, by show 1 ≤ sizeLine; decide, fun u nu => ?_⟩
          have s7 := same_put (o := .tup [.int ((0 : Int) + i)]) nu
          have ekx7 := s7 _ _ (sG3 _ _ ekx)
          have fin : ∀ (G4 : Hp) (v : Addr) (kk : List Key), Same G3 G4 → G4 v = some (.tup (kk.map kV)) → kk.length ≤ j + 1 → ∃ acc, G4 D = some (.lst acc) ∧ acc.length < sizeLine ∧ Same G2 (upd G4 D (.lst (acc ++ [.ref v]))) ∧ ∃ kd : List Kq, KeysIn (upd G4 D (.lst (acc ++ [.ref v]))) D (j + 1) kd ∧ kd.length = i + 1 := fun G4 v kk s8 ev lv => by
            have kD4 := kD.up s8
            refine ⟨_, kD4.1, by rw [List.length_map]; exact small1000 (by omega), fun c o hc => ?_, kd ++ [(v, kk)], ⟨by rw [upd_same, List.map_append]; rfl, fun k hk => ?_⟩, by rw [List.length_append, lkd]; rfl⟩
            · rw [upd_ne (ne_of_none hc nD)]
              exact s8 _ _ (sG3 _ _ hc)
            · rcases List.mem_append.mp hk with hk | hk
              · exact ⟨by rw [upd_ne (ne_of (kD4.2 k hk).1 kD4.1 (fun z => nomatch z))]; exact (kD4.2 k hk).1, (kD4.2 k hk).2⟩
              · rw [List.mem_singleton.mp hk]
                exact ⟨by rw [upd_ne (ne_of ev kD4.1 (fun z => nomatch z))]; exact ev, lv⟩
          refine ⟨kx.1, u, _, _, rfl, rfl, SqT.of ekx7, SqT.of upd_same, Nat.le_of_lt (small1000 (by rw [List.length_map, List.length_singleton]; omega)), fun e => ?_, fun _ e => (by cases e), fun _ _ v nv => ?_⟩
          · exact fin _ u [.inl ((0 : Int) + i)] s7 upd_same (by simp)
          · refine fin _ v (kx.2 ++ [.inl ((0 : Int) + i)]) (s7.trans (same_put nv)) ?_ (by rw [List.length_append, List.length_singleton]; omega)
            rw [upd_same, List.map_append]
            rfl
        · rintro G3 ⟨sG3, kd, kD, lkd⟩
          have kk3 := kk2.up sG3
          have l8D : l8 ≠ D := fun e => by rw [← e, kk2.1] at nD; cases nD
          have lD : l ≠ D := fun e => by rw [← e, kl2.1] at nD; cases nD
          refine ⟨l8, D, _, _, rfl, rfl, kk3.1, kD.1, by rw [List.length_map, List.length_map]; exact Nat.le_of_lt (small1000 (by omega)), fun c o hc => ?_, (kl2.up sG3).lst kk3.1 ll8, ⟨k2 ++ kd, ⟨by rw [upd_same, List.map_append], fun k hk => ?_⟩, by rw [List.length_append]; omega⟩, _, rfl⟩
          · rw [upd_ne (ne_of_none hc nl8G)]
            exact sG3 _ _ (sG2 _ _ hc)
          · rcases List.mem_append.mp hk with hk | hk
            · exact ⟨by rw [upd_ne (ne_of (kk3.2 k hk).1 kk3.1 (fun z => nomatch z))]; exact (kk3.2 k hk).1, (kk3.2 k hk).2⟩
            · exact ⟨by rw [upd_ne (ne_of (kD.2 k hk).1 kk3.1 (fun z => nomatch z))]; exact (kD.2 k hk).1, (kD.2 k hk).2⟩
      · rintro σ G2 ⟨sG2, kl2, ⟨k2, kk2, lk2⟩, y9, rfl⟩
        rw [List.length_map] at lk2
        exact ⟨_, rfl, sG2, l8, k2, kk2, nl8G, by rw [Nat.pow_succ]; omega, _, _, _, rfl⟩
    · rintro σ G1 ⟨sG1, l, ks, kl, nl, lks, y7, y8, y9, rfl⟩
      have p27 : 3 ^ cnt ≤ 27 := by
        have := gz.2
        match cnt, this with
        | 0, _ => decide
        | 1, _ => decide
        | 2, _ => decide
        | 3, _ => decide
      have dG1 := dG.up sG1
      have lna : l ≠ a := fun e => by
        obtain ⟨_, _, _, hh, _⟩ := dG
        rw [e, hh] at nl
        cases nl
      refine ⟨_, rfl, _, rfl, l, rfl, ⟨_, SqL.of kl.1⟩, fun D nD => ?_⟩
      have sD := same_put (o := .lst []) nD
      have nDa := dG1.ne nD
      have nDG : G D = none := by
        cases e : G D with
        | none => rfl
        | some o => rw [sG1 _ _ e] at nD; cases nD
      have lD : l ≠ D := fun e => by rw [← e, kl.1] at nD; cases nD
      refine lc_list (K := K) (a := l) (xs := ks.map fun k => V.ref k.1) (fun n G2 => But a G G2 ∧ Dice G2 a (m + 1 + 30 * i + n) ∧ KeysIn G2 l cnt ks ∧ ∃ its : List DIt, G2 D = some (.lst (its.map fun x => V.ref x.p)) ∧ its.length = n ∧ ∀ x, x ∈ its → G2 x.p = some (.tup [.ref x.kb, x.v]) ∧ G2 x.kb = some (.tup (x.k.map kV)) ∧ ∃ i : Int, x.v = .int i) ⟨But.of (sG1.trans sD), (dG1.up sD).le (by omega), kl.up sD, [], upd_same, rfl, fun x hx => by cases hx⟩ (fun n G _ h => SqL.of h.2.2.1.1) ?_ ?_
      · rintro n y G2 hn ⟨bG2, dG2, kl2, its, eD, lit, hit⟩
        rw [List.getElem?_map] at hn
        obtain ⟨kx, hkx, rfl⟩ := Option.map_eq_some_iff.mp hn
        have ltn : n < ks.length := (List.getElem?_eq_some_iff.mp hkx).1
        obtain ⟨ekx, lkx⟩ := kl2.2 kx (List.mem_of_getElem? hkx)
        refine ⟨rfl, (iteT (B := False) ?_ : if true = true then _ else False)⟩
        refine ⟨_, rfl, _, rfl, _, rfl, a, m + 1 + 30 * i + n, (sz : Int), rfl, dG2, by unfold cap; omega, by omega, by omega, fun r3 G3 b3 dd3 r30 r31 => ⟨by show 2 ≤ sizeLine; decide, fun u nu => ?_⟩⟩
        have t3 := Tups.but b3 dG2
        have su := same_put (o := .tup [.ref kx.1, .int r3]) nu
        have eD3 := su _ _ (b3 _ _ eD nDa)
        have kl3 : KeysIn G3 l cnt ks := ⟨b3 _ _ kl2.1 lna, fun k hk => ⟨t3 _ _ (kl2.2 k hk).1, (kl2.2 k hk).2⟩⟩
        have tD := Tups.lst (ys := (its.map fun x => V.ref x.p) ++ [.ref u]) eD3
        refine ⟨_, eD3, by rw [List.length_map]; exact small1000 (by omega), (bG2.trans (b3.trans (But.of su))).put nDG, ((dd3.up su).put nDa).le (by omega), (kl3.up su).lst eD3 lD, its ++ [⟨u, kx.1, kx.2, .int r3⟩], by rw [upd_same, List.map_append]; rfl, by rw [List.length_append, lit]; rfl, fun x hx => ?_⟩
        rcases List.mem_append.mp hx with hx | hx
        · obtain ⟨h1, h2, h3⟩ := hit x hx
          exact ⟨tD _ _ (su _ _ (t3 _ _ h1)), tD _ _ (su _ _ (t3 _ _ h2)), h3⟩
        · rw [List.mem_singleton.mp hx]
          exact ⟨tD _ _ upd_same, tD _ _ (su _ _ (t3 _ _ ekx)), r3, rfl⟩
      · rintro G2 ⟨bG2, dG2, kl2, its, eD, lit, hit⟩
        rw [List.length_map] at dG2 lit
        have rG2 := rG.but bG2 dG nba
        have ntda : td ≠ a := nta
        refine ⟨D, its, rfl, SqL.of eD, fun x hx => ⟨(hit x hx).1, (hit x hx).2.1⟩, fun dd ndd => ⟨by show 2 ≤ sizeLine; decide, fun t nt => ?_⟩⟩
        have s8 := same_put (o := .dT (mergeT [] its)) ndd
        have s9 := same_put (o := .tup [.int (cnt : Int), .ref dd]) nt
        have edd := s9 _ _ (upd_same : (upd G2 dd (.dT (mergeT [] its))) dd = _)
        have et : (upd (upd G2 dd (.dT (mergeT [] its))) t (.tup [.int (cnt : Int), .ref dd])) t = some (.tup [.int (cnt : Int), .ref dd]) := upd_same
        have b9 : But a G (upd (upd G2 dd (.dT (mergeT [] its))) t (.tup [.int (cnt : Int), .ref dd])) := bG2.trans (But.of (s8.trans s9))
        have d9 := dG2.up (s8.trans s9)
        have r9 := rG2.up (s8.trans s9)
        generalize upd (upd G2 dd (.dT (mergeT [] its))) t (.tup [.int (cnt : Int), .ref dd]) = G4 at edd et b9 d9 r9 ⊢
        have etd4 := b9 _ _ etd ntda
        refine ⟨_, rfl, _, rfl, td, _, rfl, DPut.k (k := .inr nm) etd4 (small1000 (by omega)), (bG.trans b9).put nHt, (d9.put ntda).le (by omega), ?_, ⟨_, fun x => if x = nm then mergeT [] its else tab x, upd_same, ?_, fun j z hj hz2 => ?_⟩, _, _, _, _, _, _, rfl⟩
        · refine ⟨by rw [upd_ne (ne_of r9.1 etd4 (fun e => nomatch e))]; exact r9.1, fun z hz => ?_⟩
          rw [upd_ne (ne_of (r9.2 z hz) etd4 (fun e => nomatch e))]
          exact r9.2 z hz
        · have := length_putK kvs (.inr nm : Key) (.ref t)
          omega
        · have allI : ∀ (its : List DIt) (acc : List (List Key × V)), (∀ x, x ∈ its → ∃ i : Int, x.v = .int i) → (∀ p, p ∈ acc → ∃ i : Int, p.2 = .int i) → ∀ p, p ∈ mergeT acc its → ∃ i : Int, p.2 = .int i := fun its => by
            induction its with
            | nil => intro acc _ h p hp; exact h p hp
            | cons x its ih =>
              intro acc h1 h2
              refine ih (putK acc x.k x.v) (fun y hy => h1 y (List.mem_cons_of_mem _ hy)) fun p hp => ?_
              rcases mem_put hp with rfl | ⟨hp, _⟩
              · exact h1 x List.mem_cons_self
              · exact h2 p hp
          by_cases en : z.2.1 = nm
          · refine ⟨t, dd, _, by rw [valV_put, if_pos (by rw [en])], by rw [upd_ne (ne_of et etd4 (fun e => nomatch e))]; exact et, ?_, ?_⟩
            · rw [upd_ne (fun e => by rw [e, etd4] at edd; cases edd)]
              dsimp only
              rw [if_pos en]
              exact edd
            · dsimp only
              rw [if_pos en]
              exact allI its [] (fun x hx => (hit x hx).2.2) (fun p hp => by cases hp)
          · have hj2 : j < i := by
              rcases Nat.lt_or_ge j i with h | h
              · exact h
              · have : j = i := by omega
                rw [this, hz] at hz2
                cases hz2
                exact absurd rfl en
            obtain ⟨q', dd', v0, h1, h2, h3, h4⟩ := (at0 j z hj2 hz2).but b9 dG
            refine ⟨q', dd', v0, by rw [valV_put, if_neg (fun e => en (by injection e))]; exact h1, by rw [upd_ne (ne_of h2 etd4 (fun e => nomatch e))]; exact h2, ?_, ?_⟩
            · rw [upd_ne (ne_of h3 etd4 (fun e => nomatch e))]
              dsimp only
              rw [if_neg en]
              exact h3
            · dsimp only
              rw [if_neg en]
              exact h4
  · rintro σ G ⟨bG, dG, rG, ⟨kvs, tab, etd, lk, at0⟩, y4, y5, y6, y7, y8, y9, rfl⟩
    have dG : Dice G a (m + 1 + 30 * (zs.map fun z => V.ref z.1).length) := dG
    rw [List.length_map] at dG
    rw [List.length_map] at at0
    refine ⟨_, rfl, _, rfl, by show 3 ≤ sizeLine; decide, fun p np => ?_⟩
    have sp := same_put (o := .tup [.int (sz : Int), .int 0, .ref td]) np
    refine q _ tab _ (bG.trans (But.of sp)) ((dG.up sp).le (by omega)) ⟨p, td, _, kvs, rfl, upd_same, sp _ _ etd, fun r hr => ?_⟩
    obtain ⟨z, hz, rfl⟩ := List.mem_map.mp hr
    obtain ⟨j, hj⟩ := List.getElem?_of_mem hz
    exact (at0 j z (List.getElem?_eq_some_iff.mp hj).1 hj).up sp
end
end K12
/-! changed. -/
namespace K12
open PySem PySem.Spec PyProof.Rows L2 Kx
section
variable {P : Program} {w : World} {K : PySem.W.Frag} {mg : Str → Option Value} {base : Heap}
def putC (o n : PyData) : PyData → PyData
  | .tuple [a, b] => .tuple [putD o n a, putD o n b]
  | d => d
theorem pure_puts {o n : PyData} (fn : formedD n = true) : ∀ {ps : List PyData}, (∀ d, d ∈ ps → ∃ a b, d = .tuple [a, b] ∧ Wr a ∧ Wr b) → pureAll (ps.map (putC o n)) = true
  | [], _ => rfl
  | d :: ps, h => by
    obtain ⟨a, b, rfl, wa, wb⟩ := h d List.mem_cons_self
    rw [List.map_cons, pureAll, pure_puts fn fun d hd => h d (List.mem_cons_of_mem _ hd)]
    simp [putC, pureD, pureAll, pure_formed _ (put_formed o n fn a wa.f), pure_formed _ (put_formed o n fn b wb.f)]
theorem termD_formed {d : PyData} (h : termD d = true) : formedD d = true := by
  simp only [termD, Bool.and_eq_true] at h
  exact h.1
def spCh (K : PySem.W.Frag) (CF CT : Addr) : Sp := fun vs H Q E => ∃ (x o n : V) (d eo en : PyData), vs = [x, o, n] ∧ Fz K H x d ∧ Dz K H o eo ∧ Dz K H n en ∧
  ((factD d = false ∧ ∀ H', Same H H' → E (.ref CF) none H') ∨ (factD d = true ∧ (termD eo && termD en) = false ∧ ∀ H', Same H H' → E (.ref CT) none H') ∨
    (factD d = true ∧ (termD eo && termD en) = true ∧ szAll ((prsD d).map (putC eo en)) ≤ 10000 ∧ shortAll ((prsD d).map (putC eo en)) = true ∧ (∀ a, a ∈ sidesD (prsD d) → (preD a).length + (preD eo).length ≤ 100000) ∧
      ((couplesD ((prsD d).map (putC eo en)) = false ∧ ∀ H', Same H H' → E (.ref CF) none H') ∨ (couplesD ((prsD d).map (putC eo en)) = true ∧ ∀ y r H', Same H H' → Dx K H' y r → (∀ ps c, d = .tuple [.tuple ps, c] → FoD (ps.map (putC eo en)) (putC eo en c) r) → Q y H'))))
theorem ok_ch (T : Tx K mg) : FnOk P w K mg base (L2.CX P w) 7 T.achanged T.dchanged ["fact", "old", "new"] (spCh K T.CInvalidFact T.CInvalidTerm) := by
  have nd := sc_changed.nd
  have GF := ok_ckf (P := P) (w := w) (base := base) T
  have GT := ok_ck (P := P) (w := w) (base := base) T
  have GI := ok_pi (P := P) (w := w) (base := base) T
  have GU := ok_put (P := P) (w := w) (base := base) T
  have GA := ok_are (P := P) (w := w) (base := base) T
  have GO := ok_fo (P := P) (w := w) (base := base) T
  refine T.fchanged.okX sc_changed (fun vs H Q E h => ?_) (fun cdv A outer s H vs Q E hr h => ?_)
  · obtain ⟨x, o, n, d, eo, en, rfl, _⟩ := h
    rfl
  obtain ⟨x, o, n, d, eo, en, rfl, hx, ho, hn, h⟩ := h
  refine ⟨_, (pss_cons (ps_expr (pe_call GF (hr.mono (by omega)) (by rfl) T.gcheck_fact T.fcheck_fact.kp T.ncheck_fact .nil (passes_call (takes_of rfl rfl rfl rfl) (fun _ _ _ _ h => h)) (pa_cons (pv 0) pa_nil)))
      (pss_cons (ps_expr (pe_call GT (hr.mono (by omega)) (by rfl) T.gcheck_term T.fcheck_term.kp T.ncheck_term .nil (passes_call (takes_of rfl rfl rfl rfl) (fun _ _ _ _ h => h)) (pa_cons (pv 1) pa_nil)))
      (pss_cons (ps_expr (pe_call GT (hr.mono (by omega)) (by rfl) T.gcheck_term T.fcheck_term.kp T.ncheck_term .nil (passes_call (takes_of rfl rfl rfl rfl) (fun _ _ _ _ h => h)) (pa_cons (pv 2) pa_nil)))
      (pss_cons (ps_setLc (i := 3) (own := [("one", 5), ("other", 6)]) (g := (gTup K 2 (gCons (gName 5) (gCons (gName 6) gNil)))) (tt := tYes) (by rfl) nd rfl rfl (sw_true rfl rfl rfl (by decide +kernel)) (pi_list (pe_call GI (hr.mono (by omega)) (by rfl) T.gpairs_in T.fpairs_in.kp T.npairs_in .nil pass0 (pa_cons (pv 0) pa_nil))) (blkOk_by (own := [("one", 5), ("other", 6)]) (N := N_changed) (sc := defScope s_changed) (by decide +kernel)) (fun _ _ _ _ _ => pg_tup rfl (pgs_cons (pg_name (i := 5) nd rfl (.inl rfl)) (pgs_cons (pg_name (i := 6) nd rfl (.inl rfl)) pgs_nil))) (fun _ _ _ _ _ => pts_nil) (fun _ _ _ _ _ => (pe_tup (pa_cons (pe_call GU (hr.mono (by omega)) (by rfl) T.gput_in T.fput_in.kp T.nput_in .nil pass0 (pa_cons (pv 5) (pa_cons (pv 1) (pa_cons (pv 2) pa_nil)))) (pa_cons (pe_call GU (hr.mono (by omega)) (by rfl) T.gput_in T.fput_in.kp T.nput_in .nil pass0 (pa_cons (pv 6) (pa_cons (pv 1) (pa_cons (pv 2) pa_nil)))) pa_nil)))))
      (pss_cons (ps_if (pt_not (pt_val (pe_call GA (hr.mono (by omega)) (by rfl) T.gare_couples T.fare_couples.kp T.nare_couples .nil pass0 (pa_cons (pv 3) pa_nil)))) (pss_one (ps_raise rfl (takes_of rfl rfl rfl rfl) (pmk_own PySem.F.excBase_ValueError T.xInvalidFact T.gInvalidFact T.kInvalidFact (raises_own T.bInvalidFact T.tInvalidFact) (by rfl)))) pss_nil)
      (pss_cons (ps_set (i := 4) nd rfl (.inl rfl) (pe_ifExp (pt_cmpR op_isN (pe_ix ix_tup (pv 0) pe_int (fun _ _ => rfl)) pe_non (nomark _)) pe_non (pe_bm0 PySem.F.plainAttrs_list PySem.F.slot_list_pop PySem.F.type_list_pop mt_pop (pv 3))))
      (pss_one (ps_ret (pe_call GO (hr.mono (by omega)) (by rfl) T.gfact_of T.ffact_of.kp T.nfact_of .nil pass0 (pa_cons (pv 4) (pa_cons (pv 3) pa_nil))))))))))), ?_⟩
  rcases h with ⟨td, q⟩ | ⟨td, tt, q⟩ | ⟨td, tt, sz, sh, hp, h⟩
  · exact ⟨_, rfl, x, d, rfl, hx, noB td, fun _ => q⟩
  · refine ⟨_, rfl, x, d, rfl, hx, fun _ H1 s1 => ⟨_, rfl, o, eo, rfl, ho.up s1, fun t1 H2 s2 => ⟨_, rfl, _, _, rfl, hn.up (s1.trans s2), noB (by rw [t1] at tt; simpa using tt), fun _ H3 s3 => q H3 (s1.trans (s2.trans s3))⟩, fun _ H2 s2 => q H2 (s1.trans s2)⟩, fun z => by rw [td] at z; cases z⟩
  have t2 : termD eo = true ∧ termD en = true := by simpa using tt
  refine ⟨_, rfl, x, d, rfl, hx, fun _ H1 s1 => ⟨_, rfl, o, eo, rfl, ho.up s1, fun _ H2 s2 => ⟨_, rfl, n, en, rfl, hn.up (s1.trans s2), fun _ H3 s3 => ?_, fun z => by rw [t2.2] at z; cases z⟩, fun z => by rw [t2.1] at z; cases z⟩, fun z => by rw [td] at z; cases z⟩
  have s13 := s1.trans (s2.trans s3)
  obtain ⟨ps, c, rfl, hc⟩ := fact_shape td
  obtain ⟨f1, f2, f3, f4⟩ := fz_parts hx
  obtain ⟨f, t, us, v, rfl, hf, ht, hus, hv⟩ := dx_fact (hx.up s13).dx
  have wr := couples_wr hc f4
  have fo := termD_formed t2.1
  have fn := termD_formed t2.2
  have ep : prsD (.tuple [.tuple ps, c]) = ps ++ endOf c := rfl
  rw [ep] at sz sh hp h
  refine ⟨_, rfl, f, t, us, v, ps, c, rfl, hf, ht, hus, hv, by omega, fun p ys H4 s4 np hp4 dy => ?_⟩
  refine ⟨p, rfl, ⟨_, SqL.of hp4⟩, fun D nD => ?_⟩
  have s14 := s13.trans s4
  have ly := dy.length
  refine lc_list (K := K) (a := p) (xs := ys) (fun i G => Same H4 G ∧ ∃ zs, G D = some (.lst zs) ∧ DxAll K G zs (((ps ++ endOf c).take i).map (putC eo en))) ⟨same_put nD, [], upd_same, .nil⟩ (fun i G _ h => SqL.of (h.1 _ _ hp4)) ?_ ?_
  · rintro i y G hi ⟨sG, zs, eD, dz⟩
    have lti : i < (ps ++ endOf c).length := by rw [← ly]; exact (List.getElem?_eq_some_iff.mp hi).1
    have gd := List.getElem?_eq_getElem lti
    obtain ⟨v2, hv2, dv⟩ := dy.get gd
    rw [hi] at hv2
    cases hv2
    obtain ⟨a, b, eab, wa, wb⟩ := wr _ (List.getElem_mem lti)
    have ms : ∀ z, z = a ∨ z = b → z ∈ sidesD (ps ++ endOf c) := fun z hz => List.mem_flatMap.mpr ⟨_, List.getElem_mem lti, by rw [eab]; rcases hz with rfl | rfl <;> simp [sidesOf]⟩
    have pa := hp a (ms a (.inl rfl))
    have pb := hp b (ms b (.inr rfl))
    rw [eab] at dv gd
    obtain ⟨q0, u, v3, rfl, hq0, du, dv3⟩ := dx_couple dv
    have sa := s14.trans sG
    refine ⟨q0, _, rfl, SqT.of (sG _ _ hq0), rfl, _, _, rfl, _, _, rfl, rfl, rfl, (iteT (B := False) ?_ : if true = true then _ else False)⟩
    refine ⟨_, rfl, _, rfl, _, rfl, u, o, n, a, eo, en, rfl, du.up sG, (ho.up sa).1, (hn.up sa).1, wa.f, fo, pa, fun v5 G5 s5 d5 => ?_⟩
    have sb := sa.trans s5
    refine ⟨_, rfl, _, rfl, _, rfl, v3, o, n, b, eo, en, rfl, dv3.up (sG.trans s5), (ho.up sb).1, (hn.up sb).1, wb.f, fo, pb, fun v6 G6 s6 d6 => ?_⟩
    refine ⟨by show 2 ≤ sizeLine; decide, fun k nk => ?_⟩
    have s7 := same_put (o := .tup [v5, v6]) nk
    have s57 := s5.trans (s6.trans s7)
    have eD7 := s57 _ _ eD
    have ek : (upd G6 k (.tup [v5, v6])) k = some (.tup [v5, v6]) := upd_same
    have d57 := d5.up (s6.trans s7)
    have d67 := d6.up s7
    generalize upd G6 k (.tup [v5, v6]) = G7 at s57 eD7 ek d57 d67 ⊢
    have tl := Tups.lst (ys := zs ++ [.ref k]) eD7
    refine ⟨zs, eD7, ?_, fun z oz hz => ?_, zs ++ [.ref k], upd_same, ?_⟩
    · rw [dz.length, List.length_map, List.length_take]
      exact small1000 (by omega)
    · rw [upd_ne (ne_of_none hz nD)]
      exact s57 _ _ (sG _ _ hz)
    · have e1 : ((ps ++ endOf c).take (i + 1)).map (putC eo en) = ((ps ++ endOf c).take i).map (putC eo en) ++ [.tuple [putD eo en a, putD eo en b]] := by
        rw [List.take_add_one, gd, List.map_append]
        rfl
      rw [e1]
      refine DxAll.append (DxAll.ts tl _ _ (pure_puts fn fun z hz => wr z (List.mem_of_mem_take hz)) (dz.up s57)) (.cons (.tup (tl _ _ ek) (.cons (Dx.ts tl _ _ (pure_formed _ (put_formed eo en fn a wa.f)) d57) (.cons (Dx.ts tl _ _ (pure_formed _ (put_formed eo en fn b wb.f)) d67) .nil))) .nil)
  · rintro G ⟨sG, zs, eD, dz⟩
    rw [ly, List.take_length] at dz
    have sa := s14.trans sG
    have l1 : ((ps ++ endOf c).map (putC eo en)).length ≤ 101 := by rw [List.length_map]; exact f2
    refine ⟨_, rfl, D, zs, (ps ++ endOf c).map (putC eo en), rfl, SqL.of eD, dz, sh, by omega, by omega, fun G6 s6 => ⟨_, rfl, ?_⟩⟩
    have sb := sa.trans s6
    rcases h with ⟨hcs, q⟩ | ⟨hcs, q⟩
    · rw [hcs]
      exact iteT (q _ sb)
    rw [hcs]
    have C2 := couples_cns hcs sz
    have tell : ∀ r, FoD (ps.map (putC eo en)) (putC eo en c) r → ∀ ps2 c2, PyData.tuple [.tuple ps, c] = .tuple [.tuple ps2, c2] → FoD (ps2.map (putC eo en)) (putC eo en c2) r := fun r h ps2 c2 e => by
      simp only [PyData.tuple.injEq, List.cons.injEq, and_true] at e
      obtain ⟨rfl, rfl⟩ := e
      exact h
    have eD6 := s6 _ _ eD
    have dz6 := dz.up s6
    have hf6 := (s4.trans (sG.trans s6)) _ _ hf
    refine iteF ⟨_, rfl, f, _, 1, v, rfl, rfl, SqT.of hf6, atI_nat (j := 1) rfl, rfl, _, rfl, ?_⟩
    by_cases ev : v = .non
    · have ee := (dx_nil hv).mpr ev
      subst ev ee
      refine iteT ?_
      rw [show endOf .none = [] from rfl, List.append_nil] at dz6 C2 l1
      exact ⟨_, rfl, _, rfl, D, .non, .none, zs, _, rfl, .non, .inl (SqL.of eD6), dz6, C2, by omega, fun z => absurd rfl z, fun y r H7 s7 dr fr => q y r H7 (sb.trans s7) dr (tell r fr)⟩
    · have ee : c ≠ .none := fun z => ev ((dx_nil hv).mp z)
      rw [decide_eq_false ev]
      refine iteF ?_
      rw [endOf_some ee, List.map_append] at dz6 C2 l1
      obtain ⟨zs0, v9, rfl, d0, d9⟩ := snocDx dz6
      refine ⟨_, rfl, .inl ⟨rfl, _, .inl (.inl eD6)⟩, D, _, v9, rfl, rfl, eD6, by simp, ?_⟩
      rw [List.dropLast_concat]
      have tl := Tups.lst (ys := zs0) eD6
      have nDH : H D = none := by
        cases e : H D with
        | none => rfl
        | some z =>
          rw [s14 _ _ e] at nD
          cases nD
      have s8 : Same H (upd G6 D (.lst zs0)) := fun z oz hz => by
        rw [upd_ne (ne_of_none hz nDH)]
        exact sb _ _ hz
      have p9 : pureD (putC eo en c) = true := by
        have : pureAll ([c].map (putC eo en)) = true := pure_puts fn fun z hz => wr z (by rw [endOf_some ee]; exact List.mem_append_right _ hz)
        simpa [pureAll] using this
      have eD9 : (upd G6 D (.lst zs0)) D = some (.lst zs0) := upd_same
      refine ⟨_, rfl, _, rfl, D, v9, putC eo en c, zs0, ps.map (putC eo en), rfl, Dx.ts tl _ _ p9 d9, .inl (SqL.of eD9), DxAll.ts tl _ _ (pure_puts fn fun z hz => wr z (List.mem_append_left _ hz)) d0, C2.sub fun z hz => List.mem_append_left _ hz, by rw [List.length_map]; omega, fun _ => C2.sub fun z hz => List.mem_append_right _ hz, fun y r H9 s9 dr fr => q y r H9 (s8.trans s9) dr (tell r fr)⟩
end
end K12
/-! _law_cut_right. -/
namespace K12
open PySem PySem.Spec PyProof.Rows L2 Kx
theorem prs_fa {rs : List NK} {n : Nat} {ds : List PyData} {L : List PyData} {c : PyData} (p : Prs ds L) (F : Func rs) (pr : ∀ z, z ∈ ds → Pr rs n z) (pc : c = .none ∨ Pr rs n c) : Fa rs n ds.length L c := by
  have pL : ∀ z, z ∈ L → Pr rs n z := fun z hz => by
    obtain ⟨c, e, rfl, l, m⟩ := (p.mem z).mp hz
    rcases m with m | m
    · exact pr _ m
    · exact absurd (List.lt_trans l ((pr _ m).tx F).1) (List.lt_irrefl _)
  exact ⟨pL, p.srt, pc, p.len⟩
/-- what cut gives of two facts over rs -/
theorem cut_fa {rs : List NK} {m k : Nat} {L M : List PyData} {c e r : PyData} (F : Func rs) (fL : Fa rs 2 m L c) (fM : Fa rs 2 k M e) (h : CutD L c M e r) : r = .none ∨ ∃ N, r = .tuple [.tuple N, e] ∧ Fa rs 2 (m + k) N e := by
  rcases h with ⟨_, z⟩ | ⟨ne, mem, N', e', fo, h⟩
  · exact .inl z
  rcases h with ⟨_, _, z⟩ | ⟨_, z⟩
  · exact .inl z
  have nrm : e ≠ .none → ∃ a b, e = .tuple [a, b] ∧ tx a < tx b := fun ne => by
    obtain ⟨a, b, rfl, ha, hb, l⟩ := (fM.c.elim (fun z => absurd z ne) id).ex
    exact ⟨a, b, rfl, (tx_lt ha.fm hb.fm (rows_in ha hb F)).mpr l⟩
  obtain ⟨L', pL, z2⟩ := fod_shape fo nrm
  simp only [PyData.tuple.injEq, List.cons.injEq, and_true] at z2
  obtain ⟨rfl, rfl⟩ := z2
  refine .inr ⟨_, z, ?_⟩
  have f := prs_fa (rs := rs) (n := 2) (c := e') pL F (fun z hz => (List.mem_append.mp hz).elim (fL.ps z) fun h => fM.ps z (List.mem_filter.mp h).1) fM.c
  refine f.le ?_
  have l1 := List.length_filter_le (fun z => !PyData.eqv z c) M
  have := fL.len
  have := fM.len
  rw [List.length_append]
  omega
structure Ly (d : PyData) : Prop where
  lay : d.canLay0 = true
  hd : d.hasDict = false
  dp : d.depth ≤ 64
  pu : pureD d = true
theorem fa_ly {rs : List NK} {n m : Nat} {L : List PyData} {c : PyData} (h : Fa rs n m L c) (l : n ≤ 6) : Ly (.tuple [.tuple L, c]) := by
  obtain ⟨y1, y2, y3⟩ := lay_cp fun z hz => (h.ps z hz).cp
  have e : c.canLay0 = true ∧ c.hasDict = false ∧ c.depth ≤ n + 1 := by
    rcases h.c with rfl | pe
    · exact ⟨rfl, rfl, by simp [PyData.depth]⟩
    · obtain ⟨a1, a2, a3, _⟩ := pr_lay pe
      exact ⟨a1, a2, a3⟩
  refine ⟨by simp [PyData.canLay0, PyData.canLayAll0, y1, e.1], by simp [PyData.hasDict, PyData.hasDictAll, y2, e.2.1], ?_, fa_pure h⟩
  have := e.2.2
  simp only [PyData.depth, PyData.depthAll]
  omega
section
variable {P : Program} {w : World} {K : PySem.W.Frag} {mg : Str → Option Value} {base : Heap}
def spCr (K : PySem.W.Frag) : Sp := fun vs H Q _ => ∃ (a b : Addr) (m : Nat) (zs : List Rw), vs = [.ref a, .ref b] ∧ Dice H a m ∧ m + 5000 < cap ∧ RowsIn H b zs ∧ b ≠ a ∧ Good (zs.map Prod.snd) ∧
  ∀ H', But a H H' → Dice H' a (m + 5000) → Q (.bl true) H'
theorem ok_cr (T : Tx K mg) : FnOk P w K mg base CX0 11 T.a_law_cut_right T.d_law_cut_right ["dice", "known"] (spCr K) := by
  have nd := sc__law_cut_right.nd
  have GR := ok_roll (P := P) (w := w) (base := base) T
  have GF := ok_df (P := P) (w := w) (base := base) T 2 (by decide)
  have GD := ok_due (P := P) (w := w) (base := base) T
  have GS := ok_se (P := P) (w := w) (base := base) T
  have GC := ok_cut (P := P) (w := w) (base := base) T
  have GU := ok_cd (P := P) (w := w) (base := base) T
  have GW := ok_dw (P := P) (w := w) (base := base) T
  have GT := ok_true (P := P) (w := w) (base := base) T
  refine T.f_law_cut_right.ok sc__law_cut_right (fun vs H Q E h => ?_) (fun cdv A outer s H vs Q E hr h => ?_)
  · obtain ⟨a, b, m, zs, rfl, _⟩ := h
    rfl
  obtain ⟨a, b, m, zs, rfl, hd, hm, ri, nba, gd, q⟩ := h
  unfold cap at hm
  have F := gd.fn
  refine ⟨_, (pss_cons (ps_set (i := 2) nd rfl (.inl rfl) (pe_call GF (hr.mono (by omega)) (by rfl) T.g_law_drawn_fact T.f_law_drawn_fact.kp T.n_law_drawn_fact .nil pass0 (pa_cons (pv 0) (pa_cons (pv 1) (pa_cons pe_int (pa_cons pe_int pa_nil))))))
      (C8.pss_cut (ps_if (PW.pt (pw_and (pt_cmpR op_eq (pe_call GR (hr.mono (by omega)) (by rfl) T.g_law_roll T.f_law_roll.kp T.n_law_roll .nil pass0 (pa_cons (pv 0) (pa_cons pe_int pa_nil))) pe_int (nomark _)) (pw_and1 (pt_cmpR op_notN (pe_ix ix_tup (pv 2) pe_int (fun _ _ => rfl)) pe_non (nomark _))))) (pss_one (ps_set (i := 2) nd rfl (.inl rfl) (pe_call GD (hr.mono (by omega)) (by rfl) T.g_law_due T.f_law_due.kp T.n_law_due .nil pass0 (pa_cons (pe_ix ix_tup (pv 2) pe_int (fun _ _ => rfl)) (pa_cons (pe_op op_cat (pe_callTy call_list_of (by rfl) T.b_list (by decide +kernel) (pa_cons (pe_ix ix_tup (pv 2) pe_int (fun _ _ => rfl)) pa_nil)) (pe_lst (pa_cons (pe_ix ix_tup (pv 2) pe_int (fun _ _ => rfl)) pa_nil))) pa_nil))))) pss_nil)
      (pss_cons (ps_set (i := 3) nd rfl (.inl rfl) (pe_call GS (hr.mono (by omega)) (by rfl) T.g_law_second T.f_law_second.kp T.n_law_second .nil pass0 (pa_cons (pv 0) (pa_cons (pv 1) (pa_cons (pv 2) pa_nil)))))
      (pss_cons (ps_set (i := 4) nd rfl (.inl rfl) (pe_call (E := E0) GC (hr.mono (by omega)) (by rfl) T.gcut T.fcut.kp T.ncut .nil (passes_call takes00 (fun _ _ _ _ h => h)) (pa_cons (pv 2) (pa_cons (pv 3) pa_nil))))
      (pss_cons (ps_if (pt_cmpR (op_neF (room200 hr)) (pv 4) (pe_call GU (hr.mono (by omega)) (by rfl) T.g_law_cut_due T.f_law_cut_due.kp T.n_law_cut_due .nil pass0 (pa_cons (pv 2) (pa_cons (pv 3) pa_nil))) (nomark _)) (pss_one (ps_ret pe_bl)) pss_nil)
      (pss_cons (ps_for PassesOwn.never rfl (pi_range1 (by rfl) T.b_range (pa_cons (pe_ifExp (pt_cmpR op_notN (pv 4) pe_non (nomark _)) pe_int pe_int) pa_nil)) (pg_name (i := 5) nd rfl (.inl rfl)) (pss_cons (ps_set (i := 6) nd rfl (.inl rfl) (pe_call GW (hr.mono (by omega)) (by rfl) T.g_law_drawn_world T.f_law_drawn_world.kp T.n_law_drawn_world .nil pass0 (pa_cons (pv 0) (pa_cons (pv 1) pa_nil))))
      (pss_one (ps_if (PW.pt (pw_and (pt_val (pe_call GT (hr.mono (by omega)) (by rfl) T.g_law_true T.f_law_true.kp T.n_law_true .nil pass0 (pa_cons (pv 6) (pa_cons (pv 2) pa_nil)))) (pw_and (pt_val (pe_call GT (hr.mono (by omega)) (by rfl) T.g_law_true T.f_law_true.kp T.n_law_true .nil pass0 (pa_cons (pv 6) (pa_cons (pv 3) pa_nil)))) (pw_and1 (pt_not (pt_val (pe_call GT (hr.mono (by omega)) (by rfl) T.g_law_true T.f_law_true.kp T.n_law_true .nil pass0 (pa_cons (pv 6) (pa_cons (pv 4) pa_nil))))))))) (pss_one (ps_ret pe_bl)) pss_nil))))
      (pss_one (ps_ret pe_bl)))))))), ?_⟩
  refine ⟨_, rfl, _, rfl, a, b, 2, m, zs, rfl, by decide, by decide, by decide, hd, by unfold cap; omega, ri, nba, gd, fun x1 L0 c0 H1 b1 d1 dx1 f0 => ?_⟩
  -- first
  refine ⟨fun σ' G => But a H G ∧ Dice G a (m + 1301) ∧ ∃ (x : V) (L : List PyData) (c : PyData), σ' = [some (.ref a), some (.ref b), some x, none, none, none, none] ∧ Dx K G x (.tuple [.tuple L, c]) ∧ Fa (zs.map Prod.snd) 2 5 L c, ?_, ?_⟩
  · refine ⟨_, rfl, a, m + 1300, 5, rfl, d1, by unfold cap; omega, by decide, by decide, fun r H2 b2 d2 r0 r1 => ⟨rfl, _, rfl, ite2 (fun e2 => ?_) (fun e2 => ?_)⟩⟩
    · have tb := Tups.but b2 d1
      have dx2 := Dx.ts tb _ _ (fa_pure f0) dx1
      obtain ⟨f1, t1, us1, v1, rfl, hf1, ht1, hus1, hv1⟩ := dx_fact dx2
      refine ⟨_, rfl, f1, _, 1, v1, rfl, rfl, SqT.of hf1, atI_nat (j := 1) rfl, rfl, _, rfl, ?_⟩
      by_cases ev : v1 = .non
      · rw [decide_eq_true ev]
        exact iteF ⟨b1.trans b2, d2, _, L0, c0, rfl, dx2, f0.le (by decide)⟩
      · rw [decide_eq_false ev]
        have ee : c0 ≠ .none := fun z => ev ((dx_nil hv1).mp z)
        have pc : Pr (zs.map Prod.snd) 2 c0 := f0.c.elim (fun z => absurd z ee) id
        refine iteT ⟨_, rfl, f1, _, 1, v1, rfl, rfl, SqT.of hf1, atI_nat (j := 1) rfl, _, rfl, f1, _, 0, .ref t1, rfl, rfl, SqT.of hf1, atI_nat (j := 0) rfl, t1, us1, rfl, .inr (SqT.of ht1), fun l2 nl2 => ?_⟩
        have s1 := same_put (o := .lst us1) nl2
        refine ⟨_, rfl, f1, _, 1, v1, rfl, rfl, SqT.of (s1 _ _ hf1), atI_nat (j := 1) rfl, by show 1 ≤ sizeLine; decide, fun l3 nl3 => ?_⟩
        have s2 := same_put (o := .lst [v1]) nl3
        have lu := hus1.length
        have ll := f0.len
        refine ⟨l2, l3, us1, [v1], rfl, rfl, s2 _ _ upd_same, upd_same, by rw [lu]; exact Nat.le_of_lt (small1000 (by show L0.length + 1 ≤ 1000; omega)), fun l4 nl4 => ?_⟩
        have s3 := same_put (o := .lst (us1 ++ [v1])) nl4
        have sA := s1.trans (s2.trans s3)
        have pr4 : ∀ z, z ∈ L0 ++ [c0] → Pr (zs.map Prod.snd) 2 z := fun z hz => (List.mem_append.mp hz).elim (f0.ps z) fun h => by rw [List.mem_singleton.mp h]; exact pc
        refine ⟨v1, l4, us1 ++ [v1], L0 ++ [c0], c0, rfl, hv1.up sA, SqL.of upd_same, DxAll.append (hus1.up sA) (.cons (hv1.up sA) .nil), cp_cns (fun z hz => (pr4 z hz).cp) (by decide) F, by rw [List.length_append]; show L0.length + 1 ≤ _; omega, fun x hx => Nat.le_trans (cp_side (fun z hz => (pr4 z hz).cp) x hx).dp (by decide), pr_told f0.c (by decide), fun z r H5 s5 dz du => ?_⟩
        obtain ⟨N, _, rfl, fN⟩ := due_fa du F pr4 f0.c
        exact ⟨(b1.trans b2).trans (But.of (sA.trans s5)), d2.up (sA.trans s5), z, N, c0, rfl, dz, fN.le (by rw [List.length_append]; show L0.length + 1 ≤ 5; omega)⟩
    · exact iteF ⟨b1.trans b2, d2, _, L0, c0, rfl, Dx.ts (Tups.but b2 d1) _ _ (fa_pure f0) dx1, f0.le (by decide)⟩
  rintro σ1 G1 ⟨bG1, dG1, x, L, c, rfl, dx, fL⟩
  -- second
  refine ⟨_, rfl, _, rfl, _, rfl, a, b, x, L, c, m + 1301, zs, rfl, dG1, by unfold cap; omega, ri.but bG1 hd nba, nba, gd, dx, fL, fun y M e H2 b2 d2 dy fM => ?_⟩
  have dx := Dx.ts (Tups.but b2 dG1) _ _ (fa_pure fL) dx
  have bG2 := bG1.trans b2
  have prA : ∀ z, z ∈ (L ++ endOf c) ++ (M ++ endOf e) → Pr (zs.map Prod.snd) 2 z := fun z hz => (List.mem_append.mp hz).elim (fL.all z) (fM.all z)
  -- found
  refine ⟨_, rfl, _, rfl, x, y, L, M, c, e, rfl, fL.fz (by decide) (by decide) (by decide) dx, fM.fz (by decide) (by decide) (by decide) dy, fL.fact (by decide) F, fM.fact (by decide) F, couples_of (cp_cns (fun z hz => (prA z hz).cp) (by decide) F), fun z r H3 s3 dz cr => ?_⟩
  have dx3 := dx.up s3
  have dy3 := dy.up s3
  refine ⟨_, rfl, _, rfl, _, rfl, x, y, L, M, c, e, _, rfl, dx3, dy3, fL.le (by decide), fM, F, fun z2 r2 H4 s4 dz2 cr2 => ?_⟩
  have er : r2 = r := cr2.uniq cr
  subst er
  have dzA := dz.up s4
  have s34 := s3.trans s4
  have d4 := d2.up s34
  have bG4 := bG2.trans (But.of s34)
  have fr := cut_fa F fL fM cr
  have ly : Ly r2 := by
    rcases fr with rfl | ⟨N, rfl, fN⟩
    · exact ⟨rfl, rfl, by simp [PyData.depth], rfl⟩
    · exact fa_ly fN (by decide)
  refine ⟨r2, r2, Dx.dp ly.hd dzA, Dx.dp ly.hd dz2, ly.lay, ly.lay, Nat.le_trans ly.dp (by decide), _, rfl, ?_⟩
  rw [SeqAt.eqv_refl _ ly.lay]
  refine iteF ?_
  have dx4 := dx3.up s4
  have dy4 := dy3.up s4
  have ri4 := ri.but bG4 hd nba
  rcases fr with rfl | ⟨N, rfl, fN⟩
  · have ez : z = .non := by
      cases dzA
      rfl
    subst ez
    refine ⟨_, rfl, rfl, _, rfl, iteF ⟨0, rfl, by decide, by decide, ?_⟩⟩
    refine for_range (fun i σ G => i = 0 ∧ G = H4) ⟨rfl, rfl⟩ (fun i σ G hi _ => absurd hi (Nat.not_lt_zero _)) ?_
    rintro σ G ⟨_, rfl⟩
    exact q _ bG4 (d4.le (by omega))
  · have nz : z ≠ .non := fun e => by
      rw [e] at dzA
      cases dzA
    refine ⟨_, rfl, rfl, _, rfl, ?_⟩
    rw [decide_eq_false nz]
    refine iteT ⟨3, rfl, by decide, by decide, ?_⟩
    refine for_range (fun i σ G => But a H4 G ∧ Dice G a (m + 2611 + 700 * i) ∧ ∃ y5 y6, σ = [some (.ref a), some (.ref b), some x, some y, some z, y5, y6]) ⟨But.refl a H4, d4.le (by omega), none, none, rfl⟩ ?_ ?_
    · rintro i σ G hi ⟨bG, dG, y5, y6, rfl⟩
      have hi : i < 3 := hi
      refine ⟨_, rfl, _, rfl, a, b, m + 2611 + 700 * i, zs, rfl, dG, by unfold cap; omega, ri4.but bG d4 nba, nba, gd, fun wv tab G2 b2 dG2 wd => ?_⟩
      have bG2 := bG.trans b2
      have tb := Tups.but bG2 d4
      have dx5 := Dx.ts tb _ _ (fa_pure fL) dx4
      have dy5 := Dx.ts tb _ _ (fa_pure fM) dy4
      have dz5 := Dx.ts tb _ _ (fa_pure fN) dzA
      have fin : ∀ G', Same G2 G' → But a H4 G' ∧ Dice G' a (m + 2611 + 700 * (i + 1)) := fun G' s => ⟨bG2.trans (But.of s), (dG2.up s).le (by omega)⟩
      refine ⟨_, rfl, _, rfl, wv, x, L, c, _, 5, tab, rfl, wd, dx5, fL, fun t1 G3 s3' e1 => ?_⟩
      cases t1 with
      | false =>
        refine ⟨_, rfl, iteF (iteF ?_)⟩
        obtain ⟨u1, u2⟩ := fin _ s3'
        exact ⟨u1, u2, _, _, rfl⟩
      | true =>
        refine ⟨_, rfl, iteT ⟨_, rfl, _, rfl, wv, y, M, e, _, 5, tab, rfl, wd.up s3', dy5.up s3', fM, fun t2 G4 s4' e2 => ?_⟩⟩
        have s5' := s3'.trans s4'
        cases t2 with
        | false =>
          refine ⟨_, rfl, iteF (iteF ?_)⟩
          obtain ⟨u1, u2⟩ := fin _ s5'
          exact ⟨u1, u2, _, _, rfl⟩
        | true =>
          refine ⟨_, rfl, iteT ⟨_, rfl, _, rfl, wv, z, N, e, _, _, tab, rfl, wd.up s5', dz5.up s5', fN, fun t3 G5 s6' e3 => ?_⟩⟩
          have h3 : t3 = true := e3.mpr (cut_true tab F fL fM cr (e1.mp rfl) (e2.mp rfl))
          subst h3
          obtain ⟨u1, u2⟩ := fin _ (s5'.trans s6')
          exact ⟨_, rfl, iteF ⟨u1, u2, _, _, rfl⟩⟩
    · rintro σ G ⟨bG, dG, y5, y6, rfl⟩
      exact q _ (bG4.trans bG) (dG.le (by omega))
end
end K12
/-! The parts of a term, listed, each as data. -/
namespace K12
open PySem PySem.Spec PyProof.Rows L2 Kx
mutual
/-- all parts, itself last -/
def belD : PyData → List PyData
  | .tuple (x :: ds) => belAll ds ++ [.tuple (x :: ds)]
  | d => [d]
def belAll : List PyData → List PyData
  | [] => []
  | d :: ds => belD d ++ belAll ds
end
theorem belAll_app : ∀ (l m : List PyData), belAll (l ++ m) = belAll l ++ belAll m
  | [], m => by simp [belAll]
  | d :: l, m => by simp [belAll, belAll_app l m]
mutual
theorem bel_perm : ∀ d : PyData, (belD d).Perm (preD d)
  | .tuple (x :: ds) => by
    rw [belD, preD]
    exact (List.perm_append_singleton _ _).trans ((bel_perms ds).cons _)
  | .tuple [] => List.Perm.refl _
  | .none => List.Perm.refl _
  | .bool _ => List.Perm.refl _
  | .int _ => List.Perm.refl _
  | .str _ => List.Perm.refl _
  | .list _ => List.Perm.refl _
  | .dict _ => List.Perm.refl _
theorem bel_perms : ∀ ds : List PyData, (belAll ds).Perm (preAll ds)
  | [] => List.Perm.refl _
  | d :: ds => by
    rw [belAll, preAll]
    exact (bel_perm d).append (bel_perms ds)
end
theorem bel_len (d : PyData) : (belD d).length = (preD d).length := (bel_perm d).length_eq
theorem belAll_take {ds : List PyData} {i : Nat} {d : PyData} (h : ds[i]? = some d) : belAll (ds.take (i + 1)) = belAll (ds.take i) ++ belD d := by
  rw [List.take_add_one, h, belAll_app]
  simp [belAll]
theorem belAll_le (ds : List PyData) (i : Nat) : (belAll (ds.take i)).length ≤ (belAll ds).length := by
  have z : belAll (ds.take i ++ ds.drop i) = belAll ds := by rw [List.take_append_drop]
  rw [belAll_app] at z
  rw [← z, List.length_append]
  omega
mutual
theorem bel_formed : ∀ d : PyData, formedD d = true → ∀ e, e ∈ belD d → formedD e = true
  | .tuple (x :: ds), h, e, he => by
    have h' := h
    rw [formedD, Bool.and_eq_true] at h
    rw [belD] at he
    rcases List.mem_append.mp he with he | he
    · exact bel_formeds ds h.2 e he
    · rw [List.mem_singleton.mp he]
      exact h'
  | .tuple [], h, _, _ => by cases h
  | .none, h, _, _ => by cases h
  | .bool _, h, _, _ => by cases h
  | .int _, h, _, _ => by cases h
  | .str _, h, _, _ => by cases h
  | .list _, h, _, _ => by cases h
  | .dict _, h, _, _ => by cases h
theorem bel_formeds : ∀ ds : List PyData, formedAll ds = true → ∀ e, e ∈ belAll ds → formedD e = true
  | [], _, e, he => by cases he
  | d :: ds, h, e, he => by
    rw [formedAll, Bool.and_eq_true] at h
    rw [belAll] at he
    rcases List.mem_append.mp he with he | he
    · exact bel_formed d h.1 e he
    · exact bel_formeds ds h.2 e he
end
/-- a part's name and how many places it has -/
def rowD : PyData → NK
  | .tuple (y :: ds) => (headD y, ds.length)
  | _ => (Str.empty, 0)
mutual
theorem bel_rows : ∀ d : PyData, formedD d = true → ((belD d).map rowD).Perm (rowsD d)
  | .tuple (x :: ds), h => by
    rw [formedD, Bool.and_eq_true] at h
    rw [belD, rowsD, List.map_append]
    exact (List.perm_append_singleton _ _).trans ((bel_rowss ds h.2).cons _)
  | .tuple [], h => by cases h
  | .none, h => by cases h
  | .bool _, h => by cases h
  | .int _, h => by cases h
  | .str _, h => by cases h
  | .list _, h => by cases h
  | .dict _, h => by cases h
theorem bel_rowss : ∀ ds : List PyData, formedAll ds = true → ((belAll ds).map rowD).Perm (rowsAll ds)
  | [], _ => List.Perm.refl _
  | d :: ds, h => by
    rw [formedAll, Bool.and_eq_true] at h
    rw [belAll, rowsAll, List.map_append]
    exact (bel_rows d h.1).append (bel_rowss ds h.2)
end
section
variable {P : Program} {w : World} {K : PySem.W.Frag} {mg : Str → Option Value} {base : Heap}
def spBl (K : PySem.W.Frag) (n : Nat) : Sp := fun vs H Q _ => ∃ (x : V) (d : PyData), vs = [x] ∧ Dx K H x d ∧ formedD d = true ∧ d.depth ≤ n ∧ (preD d).length ≤ 5000 ∧
  ∀ p H' ys, Same H H' → H p = none → H' p = some (.lst ys) → DxAll K H' ys (belD d) → Q (.ref p) H'
theorem ok_bl (T : Tx K mg) : ∀ n, FnOk P w K mg base CX0 (n + 1) T.a_law_below T.d_law_below ["term"] (spBl K n)
  | 0 => by
    refine T.f_law_below.ok sc__law_below (fun vs H Q E h => ?_) (fun cdv A outer s H vs Q E hr h => ?_)
    · obtain ⟨x, d, rfl, _⟩ := h
      rfl
    · exfalso
      obtain ⟨x, d, rfl, hx, hf, hd, _⟩ := h
      obtain ⟨z, ds, rfl, _⟩ := formed_shape hf
      simp [PyData.depth] at hd
  | n + 1 => by
    have nd := sc__law_below.nd
    have G := ok_bl T n
    refine T.f_law_below.ok sc__law_below (fun vs H Q E h => ?_) (fun cdv A outer s H vs Q E hr h => ?_)
    · obtain ⟨x, d, rfl, _⟩ := h
      rfl
    · obtain ⟨x, d, rfl, hx, hf, hd, hl, q⟩ := h
      obtain ⟨nm, ds, rfl, l3, hnm, hfa⟩ := formed_shape hf
      have hx0 := hx
      cases hx with
      | @tup a xs _ ha hs =>
      cases hs with
      | @cons v0 ws _ _ h0 hw =>
      cases h0
      have lw := hw.length
      have hdd : PyData.depthAll ds ≤ n := by
        simp only [PyData.depth, PyData.depthAll] at hd
        omega
      have lr : (preD (.tuple (.str nm :: ds))).length = (belAll ds).length + 1 := by
        rw [preD, List.length_cons, (bel_perms ds).length_eq]
      rw [lr] at hl
      refine ⟨_, (pss_cons (ps_set (i := 1) nd rfl (.inl rfl) (pe_lst pa_nil))
      (pss_cons (ps_for PassesOwn.never rfl (pi_tup (pe_slice sl_tupA (pv 0) (po_some pe_int) po_none)) (pg_name (i := 2) nd rfl (.inl rfl)) (pss_one (ps_set (i := 1) nd rfl (.inl rfl) (pe_op op_cat (pv 1) (pe_call G (hr.mono (by omega)) (by rfl) T.g_law_below T.f_law_below.kp T.n_law_below .nil pass0 (pa_cons (pv 2) pa_nil))))))
      (pss_one (ps_ret (pe_op op_cat (pv 1) (pe_lst (pa_cons (pv 0) pa_nil))))))), ?_⟩
      refine ⟨Nat.zero_le _, fun f nf => ?_⟩
      have s1 := same_put (o := .lst []) nf
      refine ⟨_, rfl, 1, rfl, ?_⟩
      dsimp only [tNoPart]
      refine sl_from (S := []) (i := 1) ((hx0.up s1).up offs_nil) olds_nil fun y H2 sl dy => ?_
      have dy := dy.up OffS.all
      rw [List.drop_one, List.tail_cons] at dy
      cases dy with
      | @tup c us _ hc hus =>
      have lus := hus.length
      have s2 := s1.trans sl
      refine ⟨c, rfl, ⟨_, SqT.of hc⟩, ?_⟩
      refine for_tup (K := K) (a := c) (xs := us) (D := { nx := tRet (tOp rCat (tVar 1) (tLst (tCons (tVar 0) tNil))) { nx := fun _ H' => Q .non H', rt := Q }, rt := Q }) (fun i σ H3 => Same H2 H3 ∧ ∃ (g : Addr) (ys : List V) (y : Option V), σ = [some (.ref a), some (.ref g), y] ∧ H3 g = some (.lst ys) ∧ DxAll K H3 ys (belAll (ds.take i)))
        ⟨Same.refl _, f, [], none, rfl, sl _ _ upd_same, by simp [belAll]; exact .nil⟩ (fun i σ H3 _ h => SqT.of (h.1 _ _ hc)) ?_ ?_
      · rintro i y σ H3 hi ⟨sm, g, ys, y0, rfl, eg, dys⟩
        have lt : i < ds.length := by
          rw [← lus]
          exact (List.getElem?_eq_some_iff.mp hi).1
        have gd := List.getElem?_eq_getElem lt
        obtain ⟨v, hv, dv⟩ := hus.get gd
        rw [hi] at hv
        cases hv
        have le1 := belAll_le ds i
        have le2 := belAll_le ds (i + 1)
        rw [belAll_take gd, List.length_append] at le2
        have lys := dys.length
        refine ⟨_, rfl, _, rfl, _, _, rfl, dv.up sm, formedAll_get hfa gd, Nat.le_trans (depthAll_get gd) hdd, by rw [← bel_len]; omega, fun p H4 zs sm4 np ep dz => ?_⟩
        have lzs := dz.length
        refine ⟨g, p, _, _, rfl, rfl, sm4 _ _ eg, ep, Nat.le_of_lt (big5 (by omega)), fun e ne => ?_⟩
        have sme := same_put (o := .lst (ys ++ zs)) ne
        refine ⟨sm.trans (sm4.trans sme), e, ys ++ zs, _, rfl, upd_same, ?_⟩
        rw [belAll_take gd]
        exact DxAll.append (dys.up (sm4.trans sme)) (dz.up sme)
      · rintro σ H3 ⟨sm, g, ys, y, rfl, eg, dys⟩
        rw [lus, List.take_length] at dys
        have lys := dys.length
        refine ⟨_, rfl, _, rfl, (by show 1 ≤ sizeLine; decide), fun e ne => ?_⟩
        have sme := same_put (o := .lst [V.ref a]) ne
        refine ⟨g, e, _, _, rfl, rfl, sme _ _ eg, upd_same, Nat.le_of_lt (big5 (by simp only [List.length_singleton]; omega)), fun p np => ?_⟩
        have smp := same_put (o := .lst (ys ++ [V.ref a])) np
        have smA := s2.trans (sm.trans (sme.trans smp))
        refine q p _ (ys ++ [V.ref a]) smA ((s2.trans (sm.trans sme)).free np) upd_same ?_
        rw [belD]
        exact DxAll.append (dys.up (sme.trans smp)) (.cons (hx0.up smA) .nil)
end
end K12
/-! How great a term is where another one is put in. -/
namespace K12
open PySem PySem.Spec PyProof.Rows L2 Kx
mutual
theorem sz_pre : ∀ d : PyData, formedD d = true → szD d = 2 * (preD d).length
  | .tuple (x :: ds), h => by
    rw [formedD, Bool.and_eq_true, Bool.and_eq_true] at h
    have hx : szD x = 1 := by
      cases x with
      | str z => rfl
      | _ => cases h.1.2
    rw [szD, szAll, preD, List.length_cons, hx, sz_pres ds h.2]
    omega
  | .tuple [], h => by cases h
  | .none, h => by cases h
  | .bool _, h => by cases h
  | .int _, h => by cases h
  | .str _, h => by cases h
  | .list _, h => by cases h
  | .dict _, h => by cases h
theorem sz_pres : ∀ ds : List PyData, formedAll ds = true → szAll ds = 2 * (preAll ds).length
  | [], _ => rfl
  | d :: ds, h => by
    rw [formedAll, Bool.and_eq_true] at h
    rw [szAll, preAll, List.length_append, sz_pre d h.1, sz_pres ds h.2]
    omega
end
mutual
theorem put_pre {o c : PyData} {M : Nat} (m1 : 1 ≤ M) (h : (preD c).length ≤ M * (preD o).length) : ∀ d : PyData, formedD d = true → (preD (putD o c d)).length ≤ M * (preD d).length
  | .tuple (x :: ds), f => by
    rw [putD]
    split
    · rename_i e
      rw [(eqv_iff f).mp e]
      exact h
    · rw [formedD, Bool.and_eq_true] at f
      rw [preD, preD, List.length_cons, List.length_cons, Nat.mul_add]
      have := put_pres m1 h ds f.2
      omega
  | .tuple [], h => by cases h
  | .none, h => by cases h
  | .bool _, h => by cases h
  | .int _, h => by cases h
  | .str _, h => by cases h
  | .list _, h => by cases h
  | .dict _, h => by cases h
theorem put_pres {o c : PyData} {M : Nat} (m1 : 1 ≤ M) (h : (preD c).length ≤ M * (preD o).length) : ∀ ds : List PyData, formedAll ds = true → (preAll (putAll o c ds)).length ≤ M * (preAll ds).length
  | [], _ => Nat.zero_le _
  | d :: ds, f => by
    rw [formedAll, Bool.and_eq_true] at f
    rw [putAll, preAll, preAll, List.length_append, List.length_append, Nat.mul_add]
    have := put_pre m1 h d f.1
    have := put_pres m1 h ds f.2
    omega
end
mutual
theorem put_depth {o c : PyData} : ∀ d : PyData, (putD o c d).depth ≤ d.depth + c.depth
  | .tuple (x :: ds) => by
    rw [putD]
    split
    · omega
    · have := put_depths (o := o) (c := c) ds
      simp only [PyData.depth, PyData.depthAll]
      omega
  | .tuple [] => by
    rw [putD]
    split <;> omega
    simp
  | .none => by rw [putD]; split <;> omega
                simp
  | .bool _ => by rw [putD]; split <;> omega
                  simp
  | .int _ => by rw [putD]; split <;> omega
                 simp
  | .str _ => by rw [putD]; split <;> omega
                 simp
  | .list _ => by rw [putD]; split <;> omega
                  simp
  | .dict _ => by rw [putD]; split <;> omega
                  simp
theorem put_depths {o c : PyData} : ∀ ds : List PyData, PyData.depthAll (putAll o c ds) ≤ PyData.depthAll ds + c.depth
  | [] => by simp [putAll, PyData.depthAll]
  | d :: ds => by
    have := put_depth (o := o) (c := c) d
    have := put_depths (o := o) (c := c) ds
    rw [putAll, PyData.depthAll, PyData.depthAll]
    omega
end
mutual
theorem put_rows {o c : PyData} {r : NK} : ∀ d : PyData, formedD d = true → r ∈ rowsD (putD o c d) → r ∈ rowsD d ∨ r ∈ rowsD c
  | .tuple (x :: ds), f, h => by
    rw [putD] at h
    split at h
    · exact .inr h
    · rw [formedD, Bool.and_eq_true] at f
      rw [rowsD] at h
      rcases List.mem_cons.mp h with e | h
      · refine .inl ?_
        rw [rowsD, e, putAll_map, List.length_map]
        exact List.mem_cons_self
      · rcases put_rowss ds f.2 h with h | h
        · refine .inl ?_
          rw [rowsD]
          exact List.mem_cons_of_mem _ h
        · exact .inr h
  | .tuple [], f, _ => by cases f
  | .none, f, _ => by cases f
  | .bool _, f, _ => by cases f
  | .int _, f, _ => by cases f
  | .str _, f, _ => by cases f
  | .list _, f, _ => by cases f
  | .dict _, f, _ => by cases f
theorem put_rowss {o c : PyData} {r : NK} : ∀ ds : List PyData, formedAll ds = true → r ∈ rowsAll (putAll o c ds) → r ∈ rowsAll ds ∨ r ∈ rowsD c
  | [], _, h => by cases h
  | d :: ds, f, h => by
    rw [formedAll, Bool.and_eq_true] at f
    rw [putAll, rowsAll] at h
    rw [rowsAll]
    rcases List.mem_append.mp h with h | h
    · rcases put_rows d f.1 h with h | h
      · exact .inl (List.mem_append_left _ h)
      · exact .inr h
    · rcases put_rowss ds f.2 h with h | h
      · exact .inl (List.mem_append_right _ h)
      · exact .inr h
end
def most : Nat → Nat
  | 0 => 0
  | n + 1 => 1 + 3 * most n
theorem pre_most : ∀ (n : Nat) (d : PyData), formedD d = true → d.depth ≤ n → (preD d).length ≤ most n
  | 0, d, f, h => by
    obtain ⟨x, ds, rfl, _⟩ := formed_shape f
    simp [PyData.depth] at h
  | n + 1, d, f, h => by
    obtain ⟨x, ds, rfl, l3, _, fa⟩ := formed_shape f
    have hd : PyData.depthAll ds ≤ n := by
      simp only [PyData.depth, PyData.depthAll] at h
      omega
    have key : ∀ es : List PyData, formedAll es = true → PyData.depthAll es ≤ n → (preAll es).length ≤ es.length * most n := by
      intro es
      induction es with
      | nil => intro _ _; exact Nat.zero_le _
      | cons e es ih =>
        intro fe he
        rw [formedAll, Bool.and_eq_true] at fe
        rw [PyData.depthAll] at he
        have := pre_most n e fe.1 (by omega)
        have := ih fe.2 (by omega)
        rw [preAll, List.length_append, List.length_cons, Nat.succ_mul]
        omega
    have := key ds fa hd
    have : ds.length * most n ≤ 3 * most n := Nat.mul_le_mul_right _ l3
    rw [preD, List.length_cons, most]
    omega
mutual
theorem part_of {e : PyData} : ∀ d : PyData, e ∈ belD d → e.depth ≤ d.depth ∧ ∀ r, r ∈ rowsD e → r ∈ rowsD d
  | .tuple (x :: ds), h => by
    rw [belD] at h
    rcases List.mem_append.mp h with h | h
    · obtain ⟨a, b⟩ := part_ofs ds h
      refine ⟨?_, fun r hr => ?_⟩
      · simp only [PyData.depth, PyData.depthAll]
        omega
      · rw [rowsD]
        exact List.mem_cons_of_mem _ (b r hr)
    · rw [List.mem_singleton.mp h]
      exact ⟨Nat.le_refl _, fun r hr => hr⟩
  | .tuple [], h => by
    rw [belD, List.mem_singleton] at h
    rw [h]
    exact ⟨Nat.le_refl _, fun r hr => hr⟩
    simp
  | .none, h => by
    rw [belD, List.mem_singleton] at h
    rw [h]
    exact ⟨Nat.le_refl _, fun r hr => hr⟩
    simp
  | .bool _, h => by
    rw [belD, List.mem_singleton] at h
    rw [h]
    exact ⟨Nat.le_refl _, fun r hr => hr⟩
    simp
  | .int _, h => by
    rw [belD, List.mem_singleton] at h
    rw [h]
    exact ⟨Nat.le_refl _, fun r hr => hr⟩
    simp
  | .str _, h => by
    rw [belD, List.mem_singleton] at h
    rw [h]
    exact ⟨Nat.le_refl _, fun r hr => hr⟩
    simp
  | .list _, h => by
    rw [belD, List.mem_singleton] at h
    rw [h]
    exact ⟨Nat.le_refl _, fun r hr => hr⟩
    simp
  | .dict _, h => by
    rw [belD, List.mem_singleton] at h
    rw [h]
    exact ⟨Nat.le_refl _, fun r hr => hr⟩
    simp
theorem part_ofs {e : PyData} : ∀ ds : List PyData, e ∈ belAll ds → e.depth ≤ PyData.depthAll ds ∧ ∀ r, r ∈ rowsD e → r ∈ rowsAll ds
  | [], h => by cases h
  | d :: ds, h => by
    rw [belAll] at h
    rw [PyData.depthAll, rowsAll]
    rcases List.mem_append.mp h with h | h
    · obtain ⟨a, b⟩ := part_of d h
      exact ⟨by omega, fun r hr => List.mem_append_left _ (b r hr)⟩
    · obtain ⟨a, b⟩ := part_ofs ds h
      exact ⟨by omega, fun r hr => List.mem_append_right _ (b r hr)⟩
end
/-- parts of a term have its names, and are no deeper -/
theorem Tm.part {rs : List NK} {n : Nat} {d e : PyData} (h : Tm rs n d) (m : e ∈ belD d) : Tm rs n e := by
  obtain ⟨a, b⟩ := part_of d m
  exact ⟨bel_formed d h.fm e m, fun r hr => h.rw r (b r hr), Nat.le_trans a h.dp⟩
theorem Tm.term {rs : List NK} {n : Nat} {d : PyData} (h : Tm rs n d) (g : Good rs) : termD d = true := by
  have fn : Func (rowsD d) := fun r hr t ht e => g.fn r (h.rw r hr) t (h.rw t ht) e
  rw [termD, h.fm, decide_eq_true fn]
  rfl
theorem DxAll.at {K : PySem.W.Frag} {H : Hp} {xs : List V} {ds : List PyData} {i : Nat} {v : V} (h : DxAll K H xs ds) (e : xs[i]? = some v) : ∃ d, d ∈ ds ∧ Dx K H v d := by
  have lt := (List.getElem?_eq_some_iff.mp e).1
  have lt2 : i < ds.length := by rw [← h.length]; exact lt
  obtain ⟨v2, hv2, dv2⟩ := h.get (List.getElem?_eq_getElem lt2)
  rw [e] at hv2
  cases hv2
  exact ⟨_, List.getElem_mem lt2, dv2⟩
end K12
/-! The law's own putting and renaming; the sides of facts. -/
namespace K12
open PySem PySem.Spec PyProof.Rows L2 Kx
theorem take_map {f : PyData → PyData} {ds : List PyData} {i : Nat} {d : PyData} (h : ds[i]? = some d) : (ds.take (i + 1)).map f = (ds.take i).map f ++ [f d] := by
  rw [List.take_add_one, h]
  simp
theorem formed_take {ds : List PyData} (h : formedAll ds = true) (f : PyData → PyData) (hf : ∀ d, formedD d = true → formedD (f d) = true) (i : Nat) : formedAll ((ds.take i).map f) = true := by
  induction ds generalizing i with
  | nil => simp [formedAll]
  | cons d ds ih =>
    rw [formedAll, Bool.and_eq_true] at h
    cases i with
    | zero => rfl
    | succ i =>
      rw [List.take_succ_cons, List.map_cons, formedAll, hf d h.1, ih h.2 i]
      rfl
section
variable {P : Program} {w : World} {K : PySem.W.Frag} {mg : Str → Option Value} {base : Heap}
def spPu (K : PySem.W.Frag) (n : Nat) : Sp := fun vs H Q _ => ∃ (x o nw : V) (d e c : PyData), vs = [x, o, nw] ∧ Dx K H x d ∧ Dx K H o e ∧ Dx K H nw c ∧ formedD d = true ∧ formedD e = true ∧ formedD c = true ∧ d.depth ≤ n ∧
  ∀ v H', Same H H' → Dx K H' v (putD e c d) → Q v H'
theorem ok_pu (T : Tx K mg) : ∀ n, n ≤ 190 → FnOk P w K mg base CX0 (n + 1) T.a_law_put T.d_law_put ["term", "old", "new"] (spPu K n)
  | 0, _ => by
    refine T.f_law_put.ok sc__law_put (fun vs H Q E h => ?_) (fun cdv A outer s H vs Q E hr h => ?_)
    · obtain ⟨x, o, nw, d, e, c, rfl, _⟩ := h
      rfl
    · exfalso
      obtain ⟨x, o, nw, d, e, c, rfl, hx, ho, hn, fd, fe, fc, dp, _⟩ := h
      obtain ⟨z, ds, rfl, _⟩ := formed_shape fd
      simp [PyData.depth] at dp
  | n + 1, ln => by
    have nd := sc__law_put.nd
    have G := ok_pu T n (by omega)
    refine T.f_law_put.ok sc__law_put (fun vs H Q E h => ?_) (fun cdv A outer s H vs Q E hr h => ?_)
    · obtain ⟨x, o, nw, d, e, c, rfl, _⟩ := h
      rfl
    · obtain ⟨x, o, nw, d, e, c, rfl, hx, ho, hn, fd, fe, fc, dp, q⟩ := h
      refine ⟨_, (pss_cons (ps_if (pt_cmpR (op_eqF (room200 hr)) (pv 0) (pv 1) (nomark _)) (pss_one (ps_ret (pv 2))) pss_nil)
      (pss_one (ps_ret (pe_op op_catA (pe_tup (pa_cons (pe_ix ix_tup (pv 0) pe_int (fun _ _ => rfl)) pa_nil)) (pe_callTy call_tuple_of (by rfl) T.b_tuple (by decide +kernel) (pa_cons (pe_lc (own := [("part", 3)]) (g := (gName 3)) (tt := tYes) (by rfl) nd (pi_tup (pe_slice sl_tupA (pv 0) (po_some pe_int) po_none)) (blkOk_by (own := [("part", 3)]) (N := N__law_put) (sc := defScope s__law_put) (by decide +kernel)) (fun _ _ _ _ _ => pg_name (i := 3) nd rfl (.inl rfl)) (fun _ _ _ _ _ => pts_nil) (fun _ _ _ _ _ => (pe_call G (hr.mono (by omega)) (by rfl) T.g_law_put T.f_law_put.kp T.n_law_put .nil pass0 (pa_cons (pv 3) (pa_cons (pv 1) (pa_cons (pv 2) pa_nil)))))) pa_nil)))))), ?_⟩
      obtain ⟨l1, h1⟩ := lay_formed d fd
      obtain ⟨l2, h2⟩ := lay_formed e fe
      refine ⟨_, rfl, _, rfl, d, e, hx.dp h1, ho.dp h2, l1, l2, by omega, _, rfl, ?_⟩
      cases ev : PyData.eqv d e with
      | true =>
        refine iteT ⟨_, rfl, q nw H (Same.refl H) ?_⟩
        obtain ⟨nm, ds, e1, _⟩ := formed_shape fd
        rw [e1] at ev ⊢
        rw [putD, if_pos ev]
        exact hn
      | false =>
        obtain ⟨nm, ds, rfl, l3, hnm, hfa⟩ := formed_shape fd
        have ddp : PyData.depthAll ds ≤ n := by
          simp only [PyData.depth, PyData.depthAll] at dp
          omega
        have hx0 := hx
        cases hx with
        | @tup b xs _ hb hs =>
        cases hs with
        | @cons v0 vr _ _ h0 hws =>
        cases h0
        refine iteF ⟨_, rfl, b, _, 0, _, rfl, rfl, SqT.of hb, atI_nat (j := 0) rfl, (by show 1 ≤ sizeLine; decide), fun p np => ?_⟩
        have sp := same_put (o := .tup [V.str nm]) np
        refine ⟨_, rfl, 1, rfl, ?_⟩
        dsimp only [tNoPart]
        refine sl_from (S := []) (i := 1) ((hx0.up sp).up offs_nil) olds_nil fun y H2 s2 dy => ?_
        have dy := dy.up OffS.all
        rw [List.drop_one, List.tail_cons] at dy
        have s12 := sp.trans s2
        cases dy with
        | @tup cc us _ hc hus =>
        have lus := hus.length
        refine ⟨cc, rfl, ⟨_, SqT.of hc⟩, fun D nD => ?_⟩
        refine lc_tup (K := K) (a := cc) (xs := us) (fun i H3 => Same H2 H3 ∧ ∃ ys : List V, H3 D = some (.lst ys) ∧ ys.length = i ∧ DxAll K H3 ys ((ds.take i).map (putD e c)))
          ⟨same_put nD, [], upd_same, rfl, .nil⟩ (fun i H3 _ h => SqT.of (h.1 _ _ hc)) ?_ ?_
        · rintro i y H3 hi ⟨s3, ys, eD, ly, dys⟩
          have lt : i < ds.length := by
            rw [← lus]
            exact (List.getElem?_eq_some_iff.mp hi).1
          have gd := List.getElem?_eq_getElem lt
          obtain ⟨v2, hv2, dv2⟩ := hus.get gd
          rw [hi] at hv2
          cases hv2
          refine ⟨rfl, (iteT (B := False) ?_ : if true = true then _ else False)⟩
          have s13 := s12.trans s3
          have fi := formedAll_get hfa gd
          refine ⟨_, rfl, _, rfl, _, rfl, y, o, nw, ds[i], e, c, rfl, dv2.up s3, ho.up s13, hn.up s13, fi, fe, fc, Nat.le_trans (depthAll_get gd) ddp, fun v H4 s4 dv => ?_⟩
          have eD4 := s4 _ _ eD
          have tl := Tups.lst (ys := ys ++ [v]) eD4
          refine ⟨_, eD4, small1000 (by omega), fun b ob hb => ?_, ys ++ [v], upd_same, by rw [List.length_append, ly]; rfl, ?_⟩
          · rw [upd_ne (ne_of_none hb nD)]
            exact s4 _ _ (s3 _ _ hb)
          · rw [take_map gd]
            refine DxAll.append (DxAll.ts tl _ _ (pure_formedAll _ (formed_take hfa _ (fun d h => put_formed e c fc d h) i)) (dys.up s4)) (.cons (Dx.ts tl _ _ (pure_formed _ (put_formed e c fc _ fi)) dv) .nil)
        · rintro H3 ⟨s3, ys, eD, ly, dys⟩
          rw [lus, List.take_length] at dys
          have lys : ys.length ≤ 3 := by omega
          refine ⟨D, ys, rfl, .inl ⟨.inl (.inl eD), fun t nt => ?_⟩⟩
          have st := same_put (o := .tup ys) nt
          refine cat_tups (S := []) (((Dx.tup (K := K) (upd_same (H := H)) (.cons (.str _) .nil)).up (s2.trans (s3.trans st))).up offs_nil) ((Dx.tup (K := K) upd_same (dys.up st)).up offs_nil) olds_nil ?_ fun z H5 s5 dz => ?_
          · rw [List.length_map]
            exact Nat.le_of_lt (small1000 (by simp only [List.length_singleton]; omega))
          · refine q z H5 (s12.trans (s3.trans (st.trans s5))) ?_
            have dz := dz.up OffS.all
            rw [putD, if_neg (by rw [ev]; simp), putAll_map]
            exact dz
def spOn (K : PySem.W.Frag) (n : Nat) : Sp := fun vs H Q _ => ∃ (x : V) (a : Addr) (d : PyData) (m : List (Str × Str)), vs = [x, .ref a] ∧ Dx K H x d ∧ Rd H a (.dK (strD m)) ∧ (∀ x, isNm x = true → isNm (nmOf m x) = true) ∧ formedD d = true ∧ d.depth ≤ n ∧
  ∀ v H', Same H H' → Dx K H' v (renD (nmOf m) d) → Q v H'
theorem ok_on (T : Tx K mg) : ∀ n, FnOk P w K mg base CX0 (n + 1) T.a_law_other_names T.d_law_other_names ["term", "table"] (spOn K n)
  | 0 => by
    refine T.f_law_other_names.ok sc__law_other_names (fun vs H Q E h => ?_) (fun cdv A outer s H vs Q E hr h => ?_)
    · obtain ⟨x, a, d, m, rfl, _⟩ := h
      rfl
    · exfalso
      obtain ⟨x, a, d, m, rfl, hx, ha, hm, fd, dp, _⟩ := h
      obtain ⟨z, ds, rfl, _⟩ := formed_shape fd
      simp [PyData.depth] at dp
  | n + 1 => by
    have nd := sc__law_other_names.nd
    have G := ok_on T n
    refine T.f_law_other_names.ok sc__law_other_names (fun vs H Q E h => ?_) (fun cdv A outer s H vs Q E hr h => ?_)
    · obtain ⟨x, a, d, m, rfl, _⟩ := h
      rfl
    · obtain ⟨x, a, d, m, rfl, hx, ha, hm, fd, dp, q⟩ := h
      have hu := hu_of hr
      refine ⟨_, (pss_one (ps_ret (pe_op op_catA (pe_tup (pa_cons (pe_dget2 hu (pv 1) (pe_ix ix_tup (pv 0) pe_int (fun _ _ => rfl)) (pe_ix ix_tup (pv 0) pe_int (fun _ _ => rfl)) ⟨by rfl, by rfl, by rfl, by rfl⟩) pa_nil)) (pe_callTy call_tuple_of (by rfl) T.b_tuple (by decide +kernel) (pa_cons (pe_lc (own := [("part", 2)]) (g := (gName 2)) (tt := tYes) (by rfl) nd (pi_tup (pe_slice sl_tupA (pv 0) (po_some pe_int) po_none)) (blkOk_by (own := [("part", 2)]) (N := N__law_other_names) (sc := defScope s__law_other_names) (by decide +kernel)) (fun _ _ _ _ _ => pg_name (i := 2) nd rfl (.inl rfl)) (fun _ _ _ _ _ => pts_nil) (fun _ _ _ _ _ => (pe_call G (hr.mono (by omega)) (by rfl) T.g_law_other_names T.f_law_other_names.kp T.n_law_other_names .nil pass0 (pa_cons (pv 2) (pa_cons (pv 1) pa_nil))))) pa_nil))))), ?_⟩
      obtain ⟨nm, ds, rfl, l3, hnm, hfa⟩ := formed_shape fd
      have ddp : PyData.depthAll ds ≤ n := by
        simp only [PyData.depth, PyData.depthAll] at dp
        omega
      have hx0 := hx
      cases hx with
      | @tup b xs _ hb hs =>
      cases hs with
      | @cons v0 vr _ _ h0 hws =>
      cases h0
      refine ⟨_, rfl, a, rfl, .inl ⟨_, ha⟩, _, rfl, b, _, 0, _, rfl, rfl, SqT.of hb, atI_nat (j := 0) rfl, _, rfl, b, _, 0, _, rfl, rfl, SqT.of hb, atI_nat (j := 0) rfl, _, .inl ⟨strD m, .inr nm, ha, rfl, rfl⟩, (by show 1 ≤ sizeLine; decide), fun p np => ?_⟩
      rw [val_strD, look_getD]
      have sp := same_put (o := .tup [V.str (nmOf m nm)]) np
      refine ⟨_, rfl, 1, rfl, ?_⟩
      dsimp only [tNoPart]
      refine sl_from (S := []) (i := 1) ((hx0.up sp).up offs_nil) olds_nil fun y H2 s2 dy => ?_
      have dy := dy.up OffS.all
      rw [List.drop_one, List.tail_cons] at dy
      have s12 := sp.trans s2
      cases dy with
      | @tup cc us _ hc hus =>
      have lus := hus.length
      refine ⟨cc, rfl, ⟨_, SqT.of hc⟩, fun D nD => ?_⟩
      refine lc_tup (K := K) (a := cc) (xs := us) (fun i H3 => Same H2 H3 ∧ ∃ ys : List V, H3 D = some (.lst ys) ∧ ys.length = i ∧ DxAll K H3 ys ((ds.take i).map (renD (nmOf m))))
        ⟨same_put nD, [], upd_same, rfl, .nil⟩ (fun i H3 _ h => SqT.of (h.1 _ _ hc)) ?_ ?_
      · rintro i y H3 hi ⟨s3, ys, eD, ly, dys⟩
        have lt : i < ds.length := by
          rw [← lus]
          exact (List.getElem?_eq_some_iff.mp hi).1
        have gd := List.getElem?_eq_getElem lt
        obtain ⟨v2, hv2, dv2⟩ := hus.get gd
        rw [hi] at hv2
        cases hv2
        refine ⟨rfl, (iteT (B := False) ?_ : if true = true then _ else False)⟩
        have s13 := s12.trans s3
        have fi := formedAll_get hfa gd
        refine ⟨_, rfl, _, rfl, y, a, ds[i], m, rfl, dv2.up s3, rd_up s13 ha, hm, fi, Nat.le_trans (depthAll_get gd) ddp, fun v H4 s4 dv => ?_⟩
        have eD4 := s4 _ _ eD
        have tl := Tups.lst (ys := ys ++ [v]) eD4
        refine ⟨_, eD4, small1000 (by omega), fun b ob hb => ?_, ys ++ [v], upd_same, by rw [List.length_append, ly]; rfl, ?_⟩
        · rw [upd_ne (ne_of_none hb nD)]
          exact s4 _ _ (s3 _ _ hb)
        · rw [take_map gd]
          refine DxAll.append (DxAll.ts tl _ _ (pure_formedAll _ (formed_take hfa _ (fun d h => ren_formed (nmOf m) hm d h) i)) (dys.up s4)) (.cons (Dx.ts tl _ _ (pure_formed _ (ren_formed (nmOf m) hm _ fi)) dv) .nil)
      · rintro H3 ⟨s3, ys, eD, ly, dys⟩
        rw [lus, List.take_length] at dys
        have lys : ys.length ≤ 3 := by omega
        refine ⟨D, ys, rfl, .inl ⟨.inl (.inl eD), fun t nt => ?_⟩⟩
        have st := same_put (o := .tup ys) nt
        refine cat_tups (S := []) (((Dx.tup (K := K) (upd_same (H := H)) (.cons (.str _) .nil)).up (s2.trans (s3.trans st))).up offs_nil) ((Dx.tup (K := K) upd_same (dys.up st)).up offs_nil) olds_nil ?_ fun z H5 s5 dz => ?_
        · rw [List.length_map]
          exact Nat.le_of_lt (small1000 (by simp only [List.length_singleton]; omega))
        · refine q z H5 (s12.trans (s3.trans (st.trans s5))) ?_
          have dz := dz.up OffS.all
          rw [renD, renAll_map]
          exact dz
end
end K12
/-! The sides of a fact, listed. -/
namespace K12
open PySem PySem.Spec PyProof.Rows L2 Kx
section
variable {P : Program} {w : World} {K : PySem.W.Frag} {mg : Str → Option Value} {base : Heap}
def rNn : R2 := fun x y H Q => y = .non ∧ Q (.bl (decide (x = .non))) H
theorem end_rd {σ : L2.St} {i : Nat} {v : V} {c : PyData} {H : Hp} {Q : VK} (h : σ[i]? = some (some v)) (dx : Dx K H v c) (q : ∀ l ws H', Same H H' → H' l = some (.lst ws) → DxAll K H' ws (endOf c) → Q (.ref l) H') :
    tIf (tTest (tOp rNn (tVar i) (tC .non))) (tLst tNil) (tLst (tCons (tVar i) tNil)) σ H Q := by
  refine ⟨_, h, ?_⟩
  show V.non = V.non ∧ _
  refine ⟨rfl, _, rfl, ?_⟩
  by_cases ev : v = .non
  · have ee := (dx_nil dx).mpr ev
    subst ee
    rw [decide_eq_true ev]
    exact iteT ⟨by show 0 ≤ sizeLine; decide, fun l nl => q l [] _ (same_put nl) upd_same .nil⟩
  · have ee : c ≠ .none := fun z => ev ((dx_nil dx).mp z)
    rw [decide_eq_false ev]
    refine iteF ⟨_, h, by show 1 ≤ sizeLine; decide, fun l nl => q l [v] _ (same_put nl) upd_same ?_⟩
    rw [endOf_some ee]
    exact .cons (dx.up (same_put nl)) .nil
theorem sides_take {ds : List PyData} {i : Nat} {d : PyData} (h : ds[i]? = some d) : sidesD (ds.take (i + 1)) = sidesD (ds.take i) ++ sidesOf d := by
  rw [sidesD, List.take_add_one, h, List.flatMap_append]
  simp [sidesD]
theorem cp_two {rs : List NK} {n : Nat} {ds : List PyData} (h : ∀ z, z ∈ ds → Cp rs n z) : formedAll (sidesD ds) = true ∧ (sidesD ds).length = 2 * ds.length := by
  induction ds with
  | nil => exact ⟨rfl, rfl⟩
  | cons z ds ih =>
    obtain ⟨i1, i2⟩ := ih fun y hy => h y (List.mem_cons_of_mem _ hy)
    obtain ⟨a, b, rfl, ha, hb⟩ := h z List.mem_cons_self
    have e : sidesD (.tuple [a, b] :: ds) = a :: b :: sidesD ds := by simp [sidesD, sidesOf]
    rw [e]
    refine ⟨by simp [formedAll, ha.fm, hb.fm, i1], ?_⟩
    simp only [List.length_cons, i2]
    omega
def spTi (K : PySem.W.Frag) : Sp := fun vs H Q _ => ∃ (a : Addr) (x : V) (L : List PyData) (c : PyData) (rs : List NK) (n : Nat), vs = [.ref a] ∧ H a = some (.lst [x]) ∧ Dx K H x (.tuple [.tuple L, c]) ∧ (∀ z, z ∈ L ++ endOf c → Cp rs n z) ∧ L.length ≤ 100 ∧
  ∀ p ys H', Same H H' → H p = none → H' p = some (.lst ys) → DxAll K H' ys (sidesD (L ++ endOf c)) → Q (.ref p) H'
theorem ok_ti (T : Tx K mg) : FnOk P w K mg base CX0 1 T.a_law_terms_in T.d_law_terms_in ["facts"] (spTi K) := by
  have nd := sc__law_terms_in.nd
  refine T.f_law_terms_in.ok sc__law_terms_in (fun vs H Q E h => ?_) (fun cdv A outer s H vs Q E hr h => ?_)
  · obtain ⟨a, x, L, c, rs, n, rfl, _⟩ := h
    rfl
  obtain ⟨a, x, L, c, rs, n, rfl, ha, dx, cp, lL, q⟩ := h
  refine ⟨_, (pss_cons (ps_set (i := 1) nd rfl (.inl rfl) (pe_lst pa_nil))
      (pss_cons (ps_for PassesOwn.never rfl (pi_list (pv 0)) (pg_tup rfl (pgs_cons (pg_name (i := 2) nd rfl (.inl rfl)) (pgs_cons (pg_name (i := 3) nd rfl (.inl rfl)) pgs_nil))) (pss_one (ps_for PassesOwn.never rfl (pi_list (pe_op op_cat (pe_callTy call_list_of (by rfl) T.b_list (by decide +kernel) (pa_cons (pv 2) pa_nil)) (pe_ifExp (pt_cmpR (r := rNn) op_isN (pv 3) pe_non (nomark _)) (pe_lst pa_nil) (pe_lst (pa_cons (pv 3) pa_nil))))) (pg_name (i := 4) nd rfl (.inl rfl)) (pss_one (ps_expr (pe_bm PySem.F.plainAttrs_list PySem.F.slot_list_extend PySem.F.type_list_extend mt_extend (pv 1) (pa_cons (pe_callTy call_list_of (by rfl) T.b_list (by decide +kernel) (pa_cons (pv 4) pa_nil)) pa_nil)))))))
      (pss_one (ps_ret (pv 1))))), ?_⟩
  refine ⟨Nat.zero_le _, fun f nf => ?_⟩
  have s0 := same_put (o := .lst []) nf
  have naf : a ≠ f := ne_of_none ha nf
  have le : (endOf c).length ≤ 1 := by cases c <;> simp [endOf]
  refine ⟨_, rfl, a, rfl, ⟨_, .inl (.inl (s0 _ _ ha))⟩, for_list (K := K) (a := a) (xs := [x]) (fun i σ G => Same H G ∧ ∃ ys y2 y3 y4, G f = some (.lst ys) ∧ σ = [some (.ref a), some (.ref f), y2, y3, y4] ∧ (i = 0 → ys = []) ∧ (0 < i → DxAll K G ys (sidesD (L ++ endOf c)))) ⟨s0, [], none, none, none, upd_same, rfl, fun _ => rfl, fun z => absurd z (Nat.lt_irrefl _)⟩ (fun i σ G _ h => .inl (.inl (h.1 _ _ ha))) ?_ ?_⟩
  · rintro i y σ G hi ⟨sG, ys, y2, y3, y4, ef, rfl, e0, _⟩
    have i0 : i = 0 := by
      have := (List.getElem?_eq_some_iff.mp hi).1
      simpa using this
    subst i0
    have ey : x = y := by simpa using hi
    subst ey
    have eys := e0 rfl
    subst eys
    obtain ⟨fa, t, us, v, rfl, hfa, ht, hus, hv⟩ := dx_fact (dx.up sG)
    have lu := hus.length
    refine ⟨fa, _, rfl, SqT.of hfa, rfl, _, _, rfl, _, _, rfl, rfl, ?_⟩
    refine ⟨_, rfl, t, us, rfl, .inr (SqT.of ht), fun l2 nl2 => ?_⟩
    have s2 := same_put (o := .lst us) nl2
    refine end_rd (i := 3) rfl (hv.up s2) fun l3 ws G3 s3 e3 dw => ?_
    have lw := dw.length
    have e2 := s3 _ _ (upd_same (H := G) (a := l2) (o := .lst us))
    refine ⟨l2, l3, us, ws, rfl, rfl, e2, e3, by rw [lu, lw]; exact Nat.le_of_lt (small1000 (by omega)), fun l4 nl4 => ?_⟩
    have s4 := same_put (o := .lst (us ++ ws)) nl4
    have s24 := s2.trans (s3.trans s4)
    have dA : DxAll K (upd G3 l4 (.lst (us ++ ws))) (us ++ ws) (L ++ endOf c) := DxAll.append (hus.up s24) (dw.up s4)
    have e4 : (upd G3 l4 (.lst (us ++ ws))) l4 = some (.lst (us ++ ws)) := upd_same
    have ef4 := s24 _ _ ef
    have sA := sG.trans s24
    have nf4 : f ≠ l4 := fun z => by
      rw [← z] at nl4
      rw [s3 _ _ (s2 _ _ ef)] at nl4
      cases nl4
    generalize upd G3 l4 (.lst (us ++ ws)) = G4 at s24 dA e4 ef4 sA
    have lA := dA.length
    have pu := cp_pure cp
    refine ⟨l4, rfl, ⟨_, .inl (.inl e4)⟩, for_list (K := K) (a := l4) (xs := us ++ ws) (fun i σ G => But f G4 G ∧ ∃ ys y4, G f = some (.lst ys) ∧ σ = [some (.ref a), some (.ref f), some (.ref t), some v, y4] ∧ DxAll K G ys (sidesD ((L ++ endOf c).take i))) ⟨But.refl f G4, [], _, ef4, rfl, .nil⟩ (fun i σ G _ h => .inl (.inl (h.1 _ _ e4 nf4.symm))) ?_ ?_⟩
    · rintro i y σ G hi ⟨bG, ys, y4, ef5, rfl, dys⟩
      have lt : i < (L ++ endOf c).length := by
        rw [← lA]
        exact (List.getElem?_eq_some_iff.mp hi).1
      have gd := List.getElem?_eq_getElem lt
      obtain ⟨v2, hv2, dv2⟩ := dA.get gd
      rw [hi] at hv2
      cases hv2
      obtain ⟨a1, b1, eab, ta, tb⟩ := cp _ (List.getElem_mem lt)
      have tb5 : Tups G4 G := fun z zs hz => bG _ _ hz fun e => by
        rw [e, ef4] at hz
        cases hz
      have dv3 := Dx.ts tb5 _ _ (by rw [eab]; exact pure_two ta.fm tb.fm) dv2
      rw [eab] at dv3 gd
      obtain ⟨p1, u1, w1, rfl, hp1, du, dw1⟩ := dx_couple dv3
      refine ⟨_, rfl, .inl ⟨rfl, _, SqL.of ef5⟩, _, rfl, p1, [u1, w1], rfl, .inr (SqT.of hp1), fun l5 nl5 => ?_⟩
      have s5 := same_put (o := .lst [u1, w1]) nl5
      have nf5 : f ≠ l5 := ne_of_none ef5 nl5
      have fs : formedAll (sidesD ((L ++ endOf c).take i)) = true ∧ (sidesD ((L ++ endOf c).take i)).length ≤ 202 := by
        obtain ⟨h1, h2⟩ := cp_two (ds := (L ++ endOf c).take i) fun z hz => cp z (List.mem_of_mem_take hz)
        refine ⟨h1, ?_⟩
        rw [h2, List.length_take, List.length_append]
        omega
      have ef6 := s5 _ _ ef5
      have tl := Tups.lst (ys := ys ++ [u1, w1]) ef6
      refine ⟨f, l5, _, _, rfl, rfl, ef6, upd_same, by rw [dys.length]; exact Nat.le_of_lt (small1000 (by have := fs.2; show _ + 2 ≤ 1000; omega)), ?_, ys ++ [u1, w1], _, upd_same, rfl, ?_⟩
      · intro z o hz ne
        rw [upd_ne ne]
        exact s5 _ _ (bG _ _ hz ne)
      · rw [sides_take gd]
        exact DxAll.append (DxAll.ts (Tups.of s5 |>.trans tl) _ _ (pure_formedAll _ fs.1) dys) (.cons (Dx.ts (Tups.of s5 |>.trans tl) _ _ (pure_formed _ ta.fm) du) (.cons (Dx.ts (Tups.of s5 |>.trans tl) _ _ (pure_formed _ tb.fm) dw1) .nil))
    · rintro σ G ⟨bG, ys, y4, ef5, rfl, dys⟩
      rw [lA, List.take_length] at dys
      refine ⟨fun z o hz => ?_, ys, _, _, _, ef5, rfl, fun z => absurd z (by omega), fun _ => dys⟩
      have nz : z ≠ f := ne_of_none hz nf
      exact bG _ _ (sA _ _ hz) nz
  · rintro σ G ⟨sG, ys, y2, y3, y4, ef, rfl, _, d1⟩
    exact ⟨_, rfl, q f ys G sG nf ef (d1 Nat.zero_lt_one)⟩
end
end K12
/-! What is due where a term is put in. -/
namespace K12
open PySem PySem.Spec PyProof.Rows L2 Kx
theorem bel_few {rs : List NK} {n : Nat} : ∀ {es : List PyData}, (∀ x, x ∈ es → Tm rs n x) → (belAll es).length ≤ es.length * most n
  | [], _ => by simp [belAll]
  | d :: es, h => by
    have ih := bel_few (es := es) fun x hx => h x (List.mem_cons_of_mem _ hx)
    have td := h d List.mem_cons_self
    have := pre_most n d td.fm td.dp
    rw [belAll, List.length_append, bel_len, List.length_cons, Nat.add_mul, Nat.one_mul]
    omega
theorem bel_tm {rs : List NK} {n : Nat} : ∀ {es : List PyData}, (∀ x, x ∈ es → Tm rs n x) → ∀ e, e ∈ belAll es → Tm rs n e
  | [], _, e, he => by cases he
  | d :: es, h, e, he => by
    rw [belAll] at he
    rcases List.mem_append.mp he with he | he
    · exact (h d List.mem_cons_self).part he
    · exact bel_tm (fun x hx => h x (List.mem_cons_of_mem _ hx)) e he
theorem tm_all {rs : List NK} {n : Nat} : ∀ {es : List PyData}, (∀ x, x ∈ es → Tm rs n x) → formedAll es = true
  | [], _ => rfl
  | d :: es, h => by rw [formedAll, (h d List.mem_cons_self).fm, tm_all fun x hx => h x (List.mem_cons_of_mem _ hx)]; rfl
theorem tm_put {rs : List NK} {n k : Nat} {d o c : PyData} (h : Tm rs n d) (hc : Tm rs k c) : Tm rs (n + k) (putD o c d) :=
  ⟨put_formed o c hc.fm d h.fm, fun r hr => (put_rows d h.fm hr).elim (h.rw r) (hc.rw r), Nat.le_trans (put_depth d) (Nat.add_le_add h.dp hc.dp)⟩
theorem cp_put {rs : List NK} {n k : Nat} {z o c : PyData} (h : Cp rs n z) (hc : Tm rs k c) : Cp rs (n + k) (putC o c z) := by
  obtain ⟨a, b, rfl, ha, hb⟩ := h
  exact ⟨_, _, rfl, tm_put ha hc, tm_put hb hc⟩
theorem cps_put {rs : List NK} {n k : Nat} {o c : PyData} {ds : List PyData} (h : ∀ z, z ∈ ds → Cp rs n z) (hc : Tm rs k c) : ∀ z, z ∈ ds.map (putC o c) → Cp rs (n + k) z := fun z hz => by
  obtain ⟨y, hy, rfl⟩ := List.mem_map.mp hz
  exact cp_put (h y hy) hc
theorem prs_cp {rs : List NK} {n : Nat} {ds : List PyData} {L : List PyData} {c : PyData} (p : Prs ds L) (F : Func rs) (cp : ∀ z, z ∈ ds → Cp rs n z) (pc : c = .none ∨ Pr rs n c) : Fa rs n ds.length L c := by
  have pL : ∀ z, z ∈ L → Pr rs n z := fun z hz => by
    obtain ⟨c, e, rfl, l, m⟩ := (p.mem z).mp hz
    rcases m with m | m
    · obtain ⟨x, y, e0, tx0, ty0⟩ := cp _ m
      simp only [PyData.tuple.injEq, List.cons.injEq, and_true] at e0
      obtain ⟨rfl, rfl⟩ := e0
      exact ⟨_, _, rfl, tx0, ty0, (tx_lt tx0.fm ty0.fm (rows_in tx0 ty0 F)).mp l⟩
    · obtain ⟨x, y, e0, tx0, ty0⟩ := cp _ m
      simp only [PyData.tuple.injEq, List.cons.injEq, and_true] at e0
      obtain ⟨rfl, rfl⟩ := e0
      exact ⟨_, _, rfl, ty0, tx0, (tx_lt ty0.fm tx0.fm (rows_in ty0 tx0 F)).mp l⟩
  exact ⟨pL, p.srt, pc, p.len⟩
/-- what is told, of two terms -/
def ToldD (rs : List NK) (n : Nat) (told : PyData) : Prop := told = .none ∨ ∃ a b, told = .tuple [a, b] ∧ Tm rs n a ∧ Tm rs n b
theorem fo_due {rs : List NK} {n : Nat} {ds : List PyData} {told r1 r2 : PyData} (F : Func rs) (h1 : FoD ds told r1) (h2 : DueD ds told r2) (ct : ToldD rs n told) (ne : ∀ a b, told = .tuple [a, b] → a ≠ b) : r1 = r2 := by
  obtain ⟨L, p1, h1⟩ := h1
  obtain ⟨M, p2, h2⟩ := h2
  have e := p1.uniq p2 fun _ _ => Iff.rfl
  subst e
  rcases ct with rfl | ⟨a, b, rfl, ta, tb⟩
  · rcases h1 with ⟨_, e1⟩ | ⟨a, b, z, _⟩
    · rcases h2 with ⟨_, e2⟩ | ⟨a, b, z, _⟩
      · rw [e1, e2]
      · cases z
    · cases z
  · have nab := ne a b rfl
    rcases h2 with ⟨z, _⟩ | ⟨a2, b2, z2, e2⟩
    · cases z
    rcases h1 with ⟨z, _⟩ | ⟨a1, b1, z1, e1⟩
    · cases z
    simp only [PyData.tuple.injEq, List.cons.injEq, and_true] at z1 z2
    obtain ⟨rfl, rfl⟩ := z1
    obtain ⟨rfl, rfl⟩ := z2
    have fab := rows_in ta tb F
    have fba := rows_in tb ta F
    rw [e2]
    rcases e1 with ⟨m, _⟩ | ⟨m, e1⟩ | ⟨m, e1⟩
    · exact absurd (tx_inj ta.fm tb.fm fab m) nab
    · rw [e1, ordP, if_pos ((tx_lt ta.fm tb.fm fab).mp m)]
    · rw [e1, ordP, if_neg fun z => absurd (List.lt_trans m ((tx_lt ta.fm tb.fm fab).mpr z)) (List.lt_irrefl _)]
theorem fo_none {ds : List PyData} {a r : PyData} (h : FoD ds (.tuple [a, a]) r) : r = .none := by
  obtain ⟨L, _, h⟩ := h
  rcases h with ⟨z, _⟩ | ⟨x, y, z, h⟩
  · cases z
  simp only [PyData.tuple.injEq, List.cons.injEq, and_true] at z
  obtain ⟨rfl, rfl⟩ := z
  rcases h with ⟨_, h⟩ | ⟨m, _⟩ | ⟨m, _⟩
  · exact h
  · exact absurd m (List.lt_irrefl _)
  · exact absurd m (List.lt_irrefl _)
theorem due_ly {rs : List NK} {n : Nat} {ds : List PyData} {told r : PyData} (F : Func rs) (l : n ≤ 6) (h : DueD ds told r) (cp : ∀ z, z ∈ ds → Cp rs n z) (ct : ToldD rs n told) (ne : ∀ a b, told = .tuple [a, b] → a ≠ b) : Ly r := by
  obtain ⟨L, p, h⟩ := h
  rcases h with ⟨_, rfl⟩ | ⟨a, b, e, rfl⟩
  · exact fa_ly (prs_cp p F cp (.inl rfl)) l
  · rcases ct with rfl | ⟨a', b', e', ta, tb⟩
    · cases e
    · rw [e] at e'
      simp only [PyData.tuple.injEq, List.cons.injEq, and_true] at e'
      obtain ⟨rfl, rfl⟩ := e'
      exact fa_ly (prs_cp p F cp (.inr (pr_ord ta tb (ne a b e)))) l
theorem put_size {rs : List NK} {o c : PyData} (tc : Tm rs 3 c) : ∀ {ds : List PyData}, (∀ z, z ∈ ds → Cp rs 3 z) → szAll (ds.map (putC o c)) ≤ ds.length * 700 ∧ shortAll (ds.map (putC o c)) = true
  | [], _ => ⟨by simp [szAll], rfl⟩
  | z :: ds, h => by
    obtain ⟨i1, i2⟩ := put_size tc (o := o) (ds := ds) fun y hy => h y (List.mem_cons_of_mem _ hy)
    obtain ⟨a, b, rfl, ha, hb⟩ := h z List.mem_cons_self
    have key : ∀ d, Tm rs 3 d → szD (putD o c d) ≤ 338 := fun d hd => by
      have hc : (preD c).length ≤ 13 := pre_most 3 c tc.fm tc.dp
      have hD : (preD d).length ≤ 13 := pre_most 3 d hd.fm hd.dp
      have p0 := pre_pos (d := o)
      have := put_pre (o := o) (c := c) (M := 13) (by decide) (by omega) d hd.fm
      rw [sz_pre _ (put_formed o c tc.fm d hd.fm)]
      omega
    have ka := key a ha
    have kb := key b hb
    refine ⟨?_, ?_⟩
    · rw [List.map_cons, szAll, List.length_cons, Nat.add_mul, Nat.one_mul]
      simp only [putC, szD, szAll]
      omega
    · simp [List.map_cons, shortAll, putC, shortD, short_formed _ (put_formed o c tc.fm a ha.fm), short_formed _ (put_formed o c tc.fm b hb.fm), i2]
end K12
/-! _law_changed_right. -/
namespace K12
open PySem PySem.Spec PyProof.Rows L2 Kx
section
variable {P : Program} {w : World} {K : PySem.W.Frag} {mg : Str → Option Value} {base : Heap}
theorem term_rd {σ : L2.St} {a b : Addr} {n k : Nat} {E : XK} {G : Hp} {Q : VK} {zs : List Rw} (h0 : σ[0]? = some (some (.ref a))) (h1 : σ[1]? = some (some (.ref b))) (n0 : 0 < n) (dG : Dice G a k) (hc : k + cost n < cap) (ri : RowsIn G b zs) (nba : b ≠ a) (gd : Good (zs.map Prod.snd))
    (q : ∀ x d H', But a G H' → Dice H' a (k + cost n) → Dx K H' x d → Tm (zs.map Prod.snd) n d → Q x H') : tCall (spLt K n) [] E (tCons (tVar 0) (tCons (tVar 1) (tCons (tC (.int (n : Int))) tNil))) σ G Q :=
  ⟨_, h0, _, h1, a, b, k, zs, rfl, n0, dG, hc, ri, nba, gd, q⟩
theorem pick_rd {σ : L2.St} {a g : Addr} {k : Nat} {E : XK} {G : Hp} {Q : VK} {rs : List NK} {xs : List V} {ds : List PyData} (h0 : σ[0]? = some (some (.ref a))) (h3 : σ[3]? = some (some (.ref g))) (dG : Dice G a k) (hc : k < cap) (eg : G g = some (.lst xs)) (ng : g ≠ a) (dx : DxAll K G xs ds) (tm : ∀ e, e ∈ ds → Tm rs 3 e) (p : 0 < xs.length) (l : xs.length < 1000000)
    (q : ∀ x d H', But a G H' → Dice H' a (k + 1) → Dx K H' x d → Tm rs 3 d → Q x H') : tCall (spPick K) [] E (tCons (tVar 0) (tCons (tVar 3) tNil)) σ G Q :=
  ⟨_, h0, _, h3, a, g, k, xs, rfl, dG, hc, SqL.of eg, ng, p, l, fun i v H' bt dd hv => by
    obtain ⟨d, hd, dv⟩ := DxAll.at dx hv
    exact q v d H' bt dd (Dx.ts (Tups.but bt dG) _ _ (pure_formed _ (tm d hd).fm) dv) (tm d hd)⟩
def spCg (K : PySem.W.Frag) : Sp := fun vs H Q _ => ∃ (a b : Addr) (m : Nat) (zs : List Rw), vs = [.ref a, .ref b] ∧ Dice H a m ∧ m + 1400 < cap ∧ RowsIn H b zs ∧ b ≠ a ∧ Good (zs.map Prod.snd) ∧
  ∀ H', But a H H' → Dice H' a (m + 1400) → Q (.bl true) H'
theorem ok_cg (T : Tx K mg) : FnOk P w K mg base CX0 11 T.a_law_changed_right T.d_law_changed_right ["dice", "known"] (spCg K) := by
  have nd := sc__law_changed_right.nd
  have GR := ok_roll (P := P) (w := w) (base := base) T
  have GF := ok_df (P := P) (w := w) (base := base) T 3 (by decide)
  have GI := ok_ti (P := P) (w := w) (base := base) T
  have GB := ok_bl (P := P) (w := w) (base := base) T 3
  have GP := ok_pick (P := P) (w := w) (base := base) T
  have G2 := ok_lt (P := P) (w := w) (base := base) T 2
  have G3 := ok_lt (P := P) (w := w) (base := base) T 3
  have GU := ok_pu (P := P) (w := w) (base := base) T 3 (by decide)
  have GD := ok_due (P := P) (w := w) (base := base) T
  have GC := ok_ch (P := P) (w := w) (base := base) T
  refine T.f_law_changed_right.ok sc__law_changed_right (fun vs H Q E h => ?_) (fun cdv A outer s H vs Q E hr h => ?_)
  · obtain ⟨a, b, m, zs, rfl, _⟩ := h
    rfl
  obtain ⟨a, b, m, zs, rfl, hd, hm, ri, nba, gd, q⟩ := h
  unfold cap at hm
  have F := gd.fn
  have r64 := Nat.lt_trans (Nat.lt_succ_self _) (room65 hr)
  refine ⟨_, (pss_cons (ps_set (i := 2) nd rfl (.inl rfl) (pe_call GF (hr.mono (by omega)) (by rfl) T.g_law_drawn_fact T.f_law_drawn_fact.kp T.n_law_drawn_fact .nil pass0 (pa_cons (pv 0) (pa_cons (pv 1) (pa_cons pe_int (pa_cons pe_int pa_nil))))))
      (pss_cons (ps_set (i := 3) nd rfl (.inl rfl) (pe_lst pa_nil))
      (pss_cons (ps_for PassesOwn.never rfl (pi_list (pe_call GI (hr.mono (by omega)) (by rfl) T.g_law_terms_in T.f_law_terms_in.kp T.n_law_terms_in .nil pass0 (pa_cons (pe_lst (pa_cons (pv 2) pa_nil)) pa_nil))) (pg_name (i := 4) nd rfl (.inl rfl)) (pss_one (ps_set (i := 3) nd rfl (.inl rfl) (pe_op op_cat (pv 3) (pe_call GB (hr.mono (by omega)) (by rfl) T.g_law_below T.f_law_below.kp T.n_law_below .nil pass0 (pa_cons (pv 4) pa_nil))))))
      (C8.pss_cut (ps_set (i := 5) nd rfl (.inr rfl) (pe_ifExp (PW.pt (pw_and (pt_cmpR (op_neNil r64) (pv 3) (pe_lst pa_nil) (nomark _)) (pw_and1 (pt_cmpR op_gt (pe_call GR (hr.mono (by omega)) (by rfl) T.g_law_roll T.f_law_roll.kp T.n_law_roll .nil pass0 (pa_cons (pv 0) (pa_cons pe_int pa_nil))) pe_int (nomark _))))) (pe_call GP (hr.mono (by omega)) (by rfl) T.g_law_pick T.f_law_pick.kp T.n_law_pick .nil pass0 (pa_cons (pv 0) (pa_cons (pv 3) pa_nil))) (pe_call G2 (hr.mono (by omega)) (by rfl) T.g_law_term T.f_law_term.kp T.n_law_term .nil pass0 (pa_cons (pv 0) (pa_cons (pv 1) (pa_cons pe_int pa_nil))))))
      (C8.pss_cut (ps_set (i := 6) nd rfl (.inr rfl) (pe_ifExp (PW.pt (pw_and (pt_cmpR (op_neNil r64) (pv 3) (pe_lst pa_nil) (nomark _)) (pw_and1 (pt_cmpR op_eq (pe_call GR (hr.mono (by omega)) (by rfl) T.g_law_roll T.f_law_roll.kp T.n_law_roll .nil pass0 (pa_cons (pv 0) (pa_cons pe_int pa_nil))) pe_int (nomark _))))) (pe_call GP (hr.mono (by omega)) (by rfl) T.g_law_pick T.f_law_pick.kp T.n_law_pick .nil pass0 (pa_cons (pv 0) (pa_cons (pv 3) pa_nil))) (pe_call G3 (hr.mono (by omega)) (by rfl) T.g_law_term T.f_law_term.kp T.n_law_term .nil pass0 (pa_cons (pv 0) (pa_cons (pv 1) (pa_cons pe_int pa_nil))))))
      (pss_cons (ps_setLc (i := 7) (own := [("one", 4), ("other", 10)]) (g := (gTup K 2 (gCons (gName 4) (gCons (gName 10) gNil)))) (tt := tYes) (by rfl) nd rfl rfl (sw_true rfl rfl rfl (by decide +kernel)) (pi_tup (pe_ix ix_tup (pv 2) pe_int (fun _ _ => rfl))) (blkOk_by (own := [("one", 4), ("other", 10)]) (N := N__law_changed_right) (sc := defScope s__law_changed_right) (by decide +kernel)) (fun _ _ _ _ _ => pg_tup rfl (pgs_cons (pg_name (i := 4) nd rfl (.inl rfl)) (pgs_cons (pg_name (i := 10) nd rfl (.inl rfl)) pgs_nil))) (fun _ _ _ _ _ => pts_nil) (fun _ _ _ _ _ => (pe_tup (pa_cons (pe_call GU (hr.mono (by omega)) (by rfl) T.g_law_put T.f_law_put.kp T.n_law_put .nil pass0 (pa_cons (pv 4) (pa_cons (pv 5) (pa_cons (pv 6) pa_nil)))) (pa_cons (pe_call GU (hr.mono (by omega)) (by rfl) T.g_law_put T.f_law_put.kp T.n_law_put .nil pass0 (pa_cons (pv 10) (pa_cons (pv 5) (pa_cons (pv 6) pa_nil)))) pa_nil)))))
      (C8.pss_cut (ps_set (i := 8) nd rfl (.inl rfl) (pe_ifExp (pt_cmpR op_isN (pe_ix ix_tup (pv 2) pe_int (fun _ _ => rfl)) pe_non (nomark _)) pe_non (pe_callTy call_tuple_of (by rfl) T.b_tuple (by decide +kernel) (pa_cons (pe_lc (own := [("one", 4)]) (g := (gName 4)) (tt := tYes) (by rfl) nd (pi_tup (pe_ix ix_tup (pv 2) pe_int (fun _ _ => rfl))) (blkOk_by (own := [("one", 4)]) (N := N__law_changed_right) (sc := defScope s__law_changed_right) (by decide +kernel)) (fun _ _ _ _ _ => pg_name (i := 4) nd rfl (.inl rfl)) (fun _ _ _ _ _ => pts_nil) (fun _ _ _ _ _ => (pe_call GU (hr.mono (by omega)) (by rfl) T.g_law_put T.f_law_put.kp T.n_law_put .nil pass0 (pa_cons (pv 4) (pa_cons (pv 5) (pa_cons (pv 6) pa_nil)))))) pa_nil))))
      (C8.pss_cut (ps_set (i := 9) nd rfl (.inl rfl) (pe_ifExp (PW.pt (pw_and (pt_cmpR op_notN (pv 8) pe_non (nomark _)) (pw_and1 (pt_cmpR (op_eqF (room200 hr)) (pe_ix ix_tup (pv 8) pe_int (fun _ _ => rfl)) (pe_ix ix_tup (pv 8) pe_int (fun _ _ => rfl)) (nomark _))))) pe_non (pe_call GD (hr.mono (by omega)) (by rfl) T.g_law_due T.f_law_due.kp T.n_law_due .nil pass0 (pa_cons (pv 8) (pa_cons (pv 7) pa_nil)))))
      (pss_one (ps_ret (pe_cmpR (op_eqF (room200 hr)) (pe_call (E := E0) GC (hr.mono (by omega)) (by rfl) T.gchanged T.fchanged.kp T.nchanged .nil (passes_call takes00 (fun _ _ _ _ h => h)) (pa_cons (pv 2) (pa_cons (pv 5) (pa_cons (pv 6) pa_nil)))) (pv 9) (nomark _)))))))))))), ?_⟩
  refine ⟨_, rfl, _, rfl, a, b, 3, m, zs, rfl, by decide, by decide, by decide, hd, by unfold cap; omega, ri, nba, gd, fun x L c H1 b1 d1 dx f0 => ?_⟩
  refine ⟨by show 0 ≤ sizeLine; decide, fun g0 ng0 => ?_⟩
  have s1 := same_put (o := .lst []) ng0
  refine ⟨_, rfl, by show 1 ≤ sizeLine; decide, fun l1 nl1 => ?_⟩
  have s2 := same_put (o := .lst [x]) nl1
  have cpL : ∀ z, z ∈ L ++ endOf c → Cp (zs.map Prod.snd) 3 z := fun z hz => (f0.all z hz).cp
  have lL := f0.len
  have le1 : (endOf c).length ≤ 1 := by cases c <;> simp [endOf]
  refine ⟨l1, x, L, c, _, 3, rfl, upd_same, dx.up (s1.trans s2), cpL, by omega, fun p ys H3 s3 np ep dys => ?_⟩
  have s13 := s1.trans (s2.trans s3)
  have tmS := cp_side cpL
  have lenS : (sidesD (L ++ endOf c)).length ≤ 8 := by
    rw [(cp_two cpL).2, List.length_append]
    omega
  have lI : (belAll (sidesD (L ++ endOf c))).length ≤ 104 := by
    have := bel_few tmS
    have e : most 3 = 13 := rfl
    rw [e] at this
    omega
  have lys := dys.length
  refine ⟨p, rfl, ⟨_, SqL.of ep⟩, for_list (K := K) (a := p) (xs := ys) (fun i σ G => Same H3 G ∧ ∃ g zs4 y4, σ = [some (.ref a), some (.ref b), some x, some (.ref g), y4, none, none, none, none, none, none] ∧ g ≠ a ∧ G g = some (.lst zs4) ∧ DxAll K G zs4 (belAll ((sidesD (L ++ endOf c)).take i))) ⟨Same.refl _, g0, [], none, rfl, d1.ne ng0, s3 _ _ (s2 _ _ upd_same), by rw [List.take_zero, belAll]; exact .nil⟩ (fun i σ G _ h => SqL.of (h.1 _ _ ep)) ?_ ?_⟩
  · rintro i y σ G hi ⟨sG, g, zs4, y4, rfl, ng, eg, dz⟩
    have lt : i < (sidesD (L ++ endOf c)).length := by
      rw [← lys]
      exact (List.getElem?_eq_some_iff.mp hi).1
    have gdi := List.getElem?_eq_getElem lt
    obtain ⟨v2, hv2, dv2⟩ := dys.get gdi
    rw [hi] at hv2
    cases hv2
    have ti := tmS _ (List.getElem_mem lt)
    have l13 : (preD (sidesD (L ++ endOf c))[i]).length ≤ 13 := pre_most 3 _ ti.fm ti.dp
    refine ⟨_, rfl, _, rfl, y, _, rfl, dv2.up sG, ti.fm, ti.dp, by omega, fun p2 G2 ws s4 np2 ep2 dw => ?_⟩
    have l5 := belAll_le (sidesD (L ++ endOf c)) i
    refine ⟨g, p2, zs4, ws, rfl, rfl, s4 _ _ eg, ep2, by rw [dz.length, dw.length, bel_len]; exact Nat.le_of_lt (small1000 (by omega)), fun l nl => ?_⟩
    have s5 := same_put (o := .lst (zs4 ++ ws)) nl
    refine ⟨sG.trans (s4.trans s5), l, _, _, rfl, (((((d1.up s13).up sG)).up s4).ne nl), upd_same, ?_⟩
    rw [belAll_take gdi]
    exact DxAll.append (dz.up (s4.trans s5)) (dw.up s5)
  rintro σ G ⟨sG, g, xs, y4, rfl, ng, eg, dz⟩
  rw [lys, List.take_length] at dz
  have tmI := bel_tm tmS
  have lxs := dz.length
  have sA := s13.trans sG
  have dG := d1.up sA
  have bG := b1.trans (But.of sA)
  have riG := ri.but bG hd nba
  have dx := dx.up sA
  have pI := pure_formedAll _ (tm_all tmI)
  clear dys ep np tmS lys s13 sA sG s1 s2 s3 b1 d1 lenS
  -- old
  refine ⟨fun σ' G' => But a G G' ∧ Dice G' a (m + 1310) ∧ ∃ yo eo, σ' = [some (.ref a), some (.ref b), some x, some (.ref g), y4, some yo, none, none, none, none, none] ∧ Dx K G' yo eo ∧ Tm (zs.map Prod.snd) 3 eo, ?_, ?_⟩
  · refine ⟨_, rfl, by show 0 ≤ sizeLine; decide, fun l nl => ⟨g, l, xs, rfl, rfl, SqL.of (same_put nl _ _ eg), SqL.of upd_same, _, rfl, ?_⟩⟩
    have sl := same_put (o := .lst []) nl
    have dGl := dG.up sl
    cases xs with
    | nil => exact iteF (iteF (term_rd rfl rfl (by decide) dGl (by show m + 1300 + 8 < cap; unfold cap; omega) (riG.up sl) nba gd fun v d H' bt dd dv tv => ⟨(But.of sl).trans bt, dd.le (by show m + 1300 + 8 ≤ _; omega), v, d, rfl, dv, tv.le (by decide)⟩))
    | cons z1 xs =>
      refine iteT ⟨_, rfl, a, m + 1300, 6, rfl, dGl, by unfold cap; omega, by decide, by decide, fun r G4 b4 d4 r0 r1 => ⟨_, _, rfl, rfl, _, rfl, ite2 (fun e2 => ?_) (fun e2 => ?_)⟩⟩
      · exact pick_rd rfl rfl d4 (by unfold cap; omega) (b4 _ _ (sl _ _ eg) ng) ng (DxAll.ts ((Tups.of sl).trans (Tups.but b4 dGl)) _ _ pI dz) tmI (Nat.succ_pos _) (by rw [lxs]; omega) fun v d H' bt dd dv tv => ⟨(But.of sl).trans (b4.trans bt), dd.le (by omega), v, d, rfl, dv, tv⟩
      · exact term_rd rfl rfl (by decide) d4 (by show m + 1301 + 8 < cap; unfold cap; omega) ((riG.up sl).but b4 dGl nba) nba gd fun v d H' bt dd dv tv => ⟨(But.of sl).trans (b4.trans bt), dd.le (by show m + 1301 + 8 ≤ _; omega), v, d, rfl, dv, tv.le (by decide)⟩
  rintro σ5 G5 ⟨b5, d5, yo, eo, rfl, dxo, tmo⟩
  have eg5 := b5 _ _ eg ng
  have dz5 := DxAll.ts (Tups.but b5 dG) _ _ pI dz
  have ri5 := riG.but b5 dG nba
  have dx5 := Dx.ts (Tups.but b5 dG) _ _ (fa_pure f0) dx
  -- new
  refine ⟨fun σ' G' => But a G5 G' ∧ Dice G' a (m + 1340) ∧ ∃ yn en, σ' = [some (.ref a), some (.ref b), some x, some (.ref g), y4, some yo, some yn, none, none, none, none] ∧ Dx K G' yn en ∧ Tm (zs.map Prod.snd) 3 en, ?_, ?_⟩
  · refine ⟨_, rfl, by show 0 ≤ sizeLine; decide, fun l nl => ⟨g, l, xs, rfl, rfl, SqL.of (same_put nl _ _ eg5), SqL.of upd_same, _, rfl, ?_⟩⟩
    have sl := same_put (o := .lst []) nl
    have dGl := d5.up sl
    cases xs with
    | nil => exact iteF (iteF (term_rd rfl rfl (by decide) dGl (by show m + 1310 + 26 < cap; unfold cap; omega) (ri5.up sl) nba gd fun v d H' bt dd dv tv => ⟨(But.of sl).trans bt, dd.le (by show m + 1310 + 26 ≤ _; omega), v, d, rfl, dv, tv⟩))
    | cons z1 xs =>
      refine iteT ⟨_, rfl, a, m + 1310, 2, rfl, dGl, by unfold cap; omega, by decide, by decide, fun r G4 b4 d4 r0 r1 => ⟨rfl, _, rfl, ite2 (fun e2 => ?_) (fun e2 => ?_)⟩⟩
      · exact pick_rd rfl rfl d4 (by unfold cap; omega) (b4 _ _ (sl _ _ eg5) ng) ng (DxAll.ts ((Tups.of sl).trans (Tups.but b4 dGl)) _ _ pI dz5) tmI (Nat.succ_pos _) (by rw [lxs]; omega) fun v d H' bt dd dv tv => ⟨(But.of sl).trans (b4.trans bt), dd.le (by omega), v, d, rfl, dv, tv⟩
      · exact term_rd rfl rfl (by decide) d4 (by show m + 1311 + 26 < cap; unfold cap; omega) ((ri5.up sl).but b4 dGl nba) nba gd fun v d H' bt dd dv tv => ⟨(But.of sl).trans (b4.trans bt), dd.le (by show m + 1311 + 26 ≤ _; omega), v, d, rfl, dv, tv⟩
  rintro σ6 G6 ⟨b6, d6, yn, en, rfl, dxn, tmn⟩
  have dx6 := Dx.ts (Tups.but b6 d5) _ _ (fa_pure f0) dx5
  have dxo := Dx.ts (Tups.but b6 d5) _ _ (pure_formed _ tmo.fm) dxo
  have bG6 := bG.trans (b5.trans b6)
  clear dx5 dz5 dz dx eg5 eg ri5
  -- raw
  obtain ⟨f, t, us, v, rfl, hf, ht, hus, hv⟩ := dx_fact dx6
  have lu := hus.length
  have cpR := cps_put (o := eo) (fun z hz => cpL z (List.mem_append_left _ hz)) tmn
  refine ⟨_, rfl, f, _, 0, .ref t, rfl, rfl, SqT.of hf, atI_nat (j := 0) rfl, t, rfl, ⟨_, SqT.of ht⟩, fun D nD => ?_⟩
  refine lc_tup (K := K) (a := t) (xs := us) (fun i G => Same G6 G ∧ ∃ ws, G D = some (.lst ws) ∧ DxAll K G ws ((L.take i).map (putC eo en))) ⟨same_put nD, [], upd_same, .nil⟩ (fun i G _ h => SqT.of (h.1 _ _ ht)) ?_ ?_
  · rintro i y G hi ⟨sG, ws, eD, dw⟩
    have lt : i < L.length := by
      rw [← lu]
      exact (List.getElem?_eq_some_iff.mp hi).1
    have gdi := List.getElem?_eq_getElem lt
    obtain ⟨v2, hv2, dv2⟩ := hus.get gdi
    rw [hi] at hv2
    cases hv2
    obtain ⟨a1, b1, eab, ta, tb⟩ := cpL _ (List.mem_append_left _ (List.getElem_mem lt))
    rw [eab] at dv2 gdi
    obtain ⟨q0, u, v3, rfl, hq0, du, dv3⟩ := dx_couple (dv2.up sG)
    refine ⟨q0, _, rfl, SqT.of hq0, rfl, _, _, rfl, _, _, rfl, rfl, rfl, (iteT (B := False) ?_ : if true = true then _ else False)⟩
    refine ⟨_, rfl, _, rfl, _, rfl, u, yo, yn, a1, eo, en, rfl, du, dxo.up sG, dxn.up sG, ta.fm, tmo.fm, tmn.fm, ta.dp, fun v5 G5 s5 d5' => ?_⟩
    have sb := sG.trans s5
    refine ⟨_, rfl, _, rfl, _, rfl, v3, yo, yn, b1, eo, en, rfl, dv3.up s5, dxo.up sb, dxn.up sb, tb.fm, tmo.fm, tmn.fm, tb.dp, fun v6 G7 s6 d6' => ?_⟩
    refine ⟨by show 2 ≤ sizeLine; decide, fun k nk => ?_⟩
    have s7 := same_put (o := .tup [v5, v6]) nk
    have s57 := s5.trans (s6.trans s7)
    have eD7 := s57 _ _ eD
    have ek : (upd G7 k (.tup [v5, v6])) k = some (.tup [v5, v6]) := upd_same
    have d57 := d5'.up (s6.trans s7)
    have d67 := d6'.up s7
    generalize upd G7 k (.tup [v5, v6]) = G8 at s57 eD7 ek d57 d67 ⊢
    have tl := Tups.lst (ys := ws ++ [.ref k]) eD7
    refine ⟨ws, eD7, ?_, fun z oz hz => ?_, ws ++ [.ref k], upd_same, ?_⟩
    · rw [dw.length, List.length_map, List.length_take]
      exact small1000 (by omega)
    · rw [upd_ne (ne_of_none hz nD)]
      exact s57 _ _ (sG _ _ hz)
    · rw [take_map gdi]
      refine DxAll.append (DxAll.ts tl _ _ (cp_pure fun z hz => cps_put (o := eo) (fun z hz => cpL z (List.mem_append_left _ (List.mem_of_mem_take hz))) tmn z hz) (dw.up s57)) (.cons (.tup (tl _ _ ek) (.cons (Dx.ts tl _ _ (pure_formed _ (tm_put ta tmn).fm) d57) (.cons (Dx.ts tl _ _ (pure_formed _ (tm_put tb tmn).fm) d67) .nil))) .nil)
  rintro G7 ⟨s7, ws, eD, dw⟩
  rw [lu, List.take_length] at dw
  have dxo := dxo.up s7
  have dxn := dxn.up s7
  have hf7 := s7 _ _ hf
  have hv7 := hv.up s7
  have dx7 := dx6.up s7
  have d7 := d6.up s7
  have bG7 := bG6.trans (But.of s7)
  clear hf ht hus hv dx6 d6
  -- told
  refine ⟨fun σ' G' => Same G7 G' ∧ ∃ wt, σ' = [some (.ref a), some (.ref b), some (.ref f), some (.ref g), y4, some yo, some yn, some (.ref D), some wt, none, none] ∧ Dx K G' wt (putC eo en c), ?_, ?_⟩
  · refine ⟨_, rfl, f, _, 1, v, rfl, rfl, SqT.of hf7, atI_nat (j := 1) rfl, rfl, _, rfl, ?_⟩
    by_cases ev : v = .non
    · have ee := (dx_nil hv7).mpr ev
      rw [decide_eq_true ev]
      refine iteT ⟨Same.refl _, _, rfl, ?_⟩
      rw [ee]
      exact .non
    · have ee : c ≠ .none := fun z => ev ((dx_nil hv7).mp z)
      rw [decide_eq_false ev]
      obtain ⟨c1, c2, ec, tc1, tc2, _⟩ := (f0.c.elim (fun z => absurd z ee) id).ex
      rw [ec] at hv7 ⊢
      obtain ⟨q0, u0, v3, rfl, hq0, du, dv3⟩ := dx_couple hv7
      have dC : DxAll K G7 [u0, v3] [c1, c2] := .cons du (.cons dv3 .nil)
      refine iteF ⟨_, rfl, f, _, 1, .ref q0, rfl, rfl, SqT.of hf7, atI_nat (j := 1) rfl, q0, rfl, ⟨_, SqT.of hq0⟩, fun D2 nD2 => ?_⟩
      have tmC : ∀ e, e ∈ [c1, c2] → Tm (zs.map Prod.snd) 3 e := fun e he => by
        rcases List.mem_cons.mp he with rfl | he
        · exact tc1
        · rw [List.mem_singleton.mp he]
          exact tc2
      refine lc_tup (K := K) (a := q0) (xs := [u0, v3]) (fun i G => Same G7 G ∧ ∃ ys : List V, G D2 = some (.lst ys) ∧ ys.length = i ∧ DxAll K G ys (([c1, c2].take i).map (putD eo en)))
        ⟨same_put nD2, [], upd_same, rfl, .nil⟩ (fun i G _ h => SqT.of (h.1 _ _ hq0)) ?_ ?_
      · rintro i y G hi ⟨s3, ys, eD2, ly, dys⟩
        have lt : i < [c1, c2].length := (List.getElem?_eq_some_iff.mp hi).1
        have gdi := List.getElem?_eq_getElem lt
        obtain ⟨v2, hv2, dv2⟩ := dC.get gdi
        rw [hi] at hv2
        cases hv2
        have ti := tmC _ (List.getElem_mem lt)
        refine ⟨rfl, (iteT (B := False) ?_ : if true = true then _ else False)⟩
        refine ⟨_, rfl, _, rfl, _, rfl, y, yo, yn, _, eo, en, rfl, dv2.up s3, dxo.up s3, dxn.up s3, ti.fm, tmo.fm, tmn.fm, ti.dp, fun v9 G4 s4 dv => ?_⟩
        have eD4 := s4 _ _ eD2
        have tl := Tups.lst (ys := ys ++ [v9]) eD4
        have lt2 : i < 2 := lt
        refine ⟨_, eD4, small1000 (by omega), fun b ob hb => ?_, ys ++ [v9], upd_same, by rw [List.length_append, ly]; rfl, ?_⟩
        · rw [upd_ne (ne_of_none hb nD2)]
          exact s4 _ _ (s3 _ _ hb)
        · rw [take_map gdi]
          refine DxAll.append (DxAll.ts tl _ _ (pure_formedAll _ (formed_take (tm_all tmC) _ (fun d h => put_formed eo en tmn.fm d h) i)) (dys.up s4)) (.cons (Dx.ts tl _ _ (pure_formed _ (put_formed eo en tmn.fm _ ti.fm)) dv) .nil)
      · rintro G ⟨s3, ys, eD2, ly, dys⟩
        refine ⟨D2, ys, rfl, .inl ⟨SqL.of eD2, fun t2 nt => ?_⟩⟩
        have st := same_put (o := .tup ys) nt
        exact ⟨s3.trans st, _, rfl, .tup upd_same (show DxAll K _ ys [putD eo en c1, putD eo en c2] from dys.up st)⟩
  rintro σ8 G8 ⟨s8, wt, rfl, dwt⟩
  have ct : ToldD (zs.map Prod.snd) 6 (putC eo en c) := by
    rcases f0.c with rfl | pc
    · exact .inl rfl
    · obtain ⟨c1, c2, rfl, tc1, tc2, _⟩ := pc.ex
      exact .inr ⟨_, _, rfl, tm_put tc1 tmn, tm_put tc2 tmn⟩
  have eD8 := s8 _ _ eD
  have dw8 := dw.up s8
  -- due
  have cns := cp_cns cpR (by decide) F
  have dueR : ∀ (G1 : Hp) (Q : VK), Same G8 G1 → (∀ y G' r9, Same G8 G' → Dx K G' y r9 → DueD (L.map (putC eo en)) (putC eo en c) r9 → Q y G') → tCall (spDue K) [] E0 (tCons (tVar 8) (tCons (tVar 7) tNil)) [some (.ref a), some (.ref b), some (.ref f), some (.ref g), y4, some yo, some yn, some (.ref D), some wt, none, none] G1 Q := fun G1 Q s9 q =>
    ⟨_, rfl, _, rfl, wt, D, ws, L.map (putC eo en), putC eo en c, rfl, dwt.up s9, SqL.of (s9 _ _ eD8), dw8.up s9, cns, by rw [List.length_map]; omega, fun y hy => (cp_side cpR y hy).dp, ct.imp id (fun ⟨a, b, e, ta, tb⟩ => ⟨a, b, e, ta.fm, tb.fm, ta.dp⟩), fun y r G' s dy du => q y G' r (s9.trans s) dy du⟩
  refine ⟨fun σ' G' => ∃ y, σ' = [some (.ref a), some (.ref b), some (.ref f), some (.ref g), y4, some yo, some yn, some (.ref D), some wt, some y, none] ∧ Same G8 G' ∧ ∃ r9, Dx K G' y r9 ∧ ((∃ a, putC eo en c = .tuple [a, a] ∧ r9 = .none) ∨ ((∀ a b, putC eo en c = .tuple [a, b] → a ≠ b) ∧ DueD (L.map (putC eo en)) (putC eo en c) r9)), ?_, ?_⟩
  · refine ⟨_, rfl, rfl, _, rfl, ?_⟩
    by_cases ev : wt = .non
    · have ee := (dx_nil dwt).mpr ev
      rw [decide_eq_true ev]
      refine iteF (iteF ?_)
      exact dueR G8 _ (Same.refl _) fun y G' r9 s dy du => ⟨y, rfl, s, r9, dy, .inr ⟨fun a b z => (by rw [ee] at z; cases z), du⟩⟩
    · rw [decide_eq_false ev]
      obtain ⟨e1, e2, et, t1, t2⟩ := ct.resolve_left fun z => ev ((dx_nil dwt).mp z)
      have dwt' := dwt
      rw [et] at dwt'
      obtain ⟨q0, u0, v3, rfl, hq0, du, dv3⟩ := dx_couple dwt'
      obtain ⟨l1, h1⟩ := lay_formed e1 t1.fm
      obtain ⟨l2, h2⟩ := lay_formed e2 t2.fm
      refine iteT ⟨_, rfl, q0, _, 0, u0, rfl, rfl, SqT.of hq0, atI_nat (j := 0) rfl, _, rfl, q0, _, 1, v3, rfl, rfl, SqT.of hq0, atI_nat (j := 1) rfl, e1, e2, du.dp h1, dv3.dp h2, l1, l2, Nat.le_trans t1.dp (by decide), _, rfl, ?_⟩
      cases eq : PyData.eqv e1 e2 with
      | true =>
        have e12 := (eqv_formed e1 e2 t1.fm t2.fm).mp eq
        subst e12
        exact iteT ⟨_, rfl, Same.refl _, .none, .non, .inl ⟨e1, et, rfl⟩⟩
      | false =>
        refine iteF (dueR G8 _ (Same.refl _) fun y G' r9 s dy du => ⟨y, rfl, s, r9, dy, .inr ⟨fun a b z => ?_, du⟩⟩)
        rw [et] at z
        simp only [PyData.tuple.injEq, List.cons.injEq, and_true] at z
        obtain ⟨rfl, rfl⟩ := z
        intro z
        rw [(eqv_formed e1 e2 t1.fm t2.fm).mpr z] at eq
        cases eq
  rintro σ9 G9 ⟨y9, rfl, s9, r9, dy9, h9⟩
  have sB := s8.trans s9
  have dxF := dx7.up sB
  have dxO := dxo.up sB
  have dxN := dxn.up sB
  have cpA := cps_put (o := eo) cpL tmn
  obtain ⟨z1, z2⟩ := put_size (o := eo) tmn cpL
  have lA : (L ++ endOf c).length ≤ 4 := by
    rw [List.length_append]
    omega
  have dzf : ∀ {y d}, Dx K G9 y d → Tm (zs.map Prod.snd) 3 d → Dz K G9 y d := fun {y d} dy td => ⟨dy, short_formed _ td.fm, by have := sz_formed d 3 td.fm td.dp; have : big 3 = 53 := rfl; omega⟩
  refine ⟨_, rfl, _, rfl, _, rfl, .ref f, yo, yn, .tuple [.tuple L, c], eo, en, rfl, f0.fz (by decide) (by decide) (by decide) dxF, dzf dxO tmo, dzf dxN tmn, .inr (.inr ⟨f0.fact (by decide) F, ?_, ?_, z2, fun d hdd => ?_, .inr ⟨couples_of (cp_cns cpA (by decide) F), fun y r G' s dy fo => ?_⟩⟩)⟩
  · rw [tmo.term gd, tmn.term gd]
    rfl
  · exact Nat.le_trans z1 (Nat.le_trans (Nat.mul_le_mul_right 700 lA) (by decide))
  · have td := cp_side cpL d hdd
    have := pre_most 3 d td.fm td.dp
    have := pre_most 3 eo tmo.fm tmo.dp
    have : most 3 = 13 := rfl
    omega
  have fo := fo L c rfl
  have er : r = r9 ∧ Ly r9 := by
    rcases h9 with ⟨a1, e, rfl⟩ | ⟨ne, du⟩
    · rw [e] at fo
      exact ⟨fo_none fo, ⟨rfl, rfl, by simp [PyData.depth], rfl⟩⟩
    · exact ⟨fo_due F fo du ct ne, due_ly F (by decide) du cpR ct ne⟩
  obtain ⟨rfl, ly⟩ := er
  refine ⟨_, rfl, r, r, Dx.dp ly.hd dy, Dx.dp ly.hd (dy9.up s), ly.lay, ly.lay, Nat.le_trans ly.dp (by decide), ?_⟩
  rw [SeqAt.eqv_refl _ ly.lay]
  exact q _ (bG7.trans (But.of (sB.trans s))) ((d7.up (sB.trans s)).le (by omega))
end
end K12
/-! list(zip(xs, ys)), two lists. -/
namespace Kx
open PySem PySem.Calls PySem.W PyProof.Rows PyProof.V PySem.Spec
theorem nolen_zip : typeLookup (.type "zip") "__len__" = pure none := by rw [typeLookup_type, builtinLookup_eq_fast]; kernel_rfl
theorem nohint_zip : typeLookup (.type "zip") "__length_hint__" = pure none := by rw [typeLookup_type, builtinLookup_eq_fast]; kernel_rfl
/-- a zip of two lists, i items drawn; S: where they are gathered -/
structure ZlSt (h : Heap) (S z TI TO i1 i2 l1 l2 : Addr) (xs ys : Array Value) (i : Nat) : Prop where
  ti : IsPair h TI (.ref i1) (.ref i2)
  it1 : h.IsListIter i1 l1 i
  it2 : h.IsListIter i2 l2 i
  L1 : h.IsList l1 xs
  L2 : h.IsList l2 ys
  st : (IsZip h z TI TO .none ∧ ∃ a b, IsPair h TO a b) ∨ (∃ T f oT, IsZipHeld h z TI TO T f ∧ h.get? T = some oT ∧ T ≠ S ∧ T ≠ z ∧ T ≠ i1 ∧ T ≠ i2)
structure ZlG (xs ys : Array Value) (lo : Addr) (h : Heap) (as : List Addr) : Prop where
  rise : as.Pairwise (· < ·)
  above : ∀ a ∈ as, lo ≤ a
  pairs : ∀ (j : Nat) (a : Addr), as[j]? = some a → ∃ x y, xs[j]? = some x ∧ ys[j]? = some y ∧ IsPair h a x y
theorem ZlG.there {xs ys : Array Value} {lo : Addr} {h : Heap} {as : List Addr} (g : ZlG xs ys lo h as) {a : Addr} (ha : a ∈ as) : a < h.objs.size := by
  obtain ⟨j, hj⟩ := List.mem_iff_getElem?.mp ha
  obtain ⟨x, y, _, _, e⟩ := g.pairs j a hj
  exact Heap.lt_size e
section
variable {prog : Program} {w : World} {A : Around} {E : Value → Shared → Prop} {s : Shared} {S z TI TO i1 i2 l1 l2 : Addr} {xs ys : Array Value} {i : Nat}
theorem ZlSt.keep {h h' : Heap} (Z : ZlSt h S z TI TO i1 i2 l1 l2 xs ys i) (up : ∀ b o, b ≠ S → h.get? b = some o → h'.get? b = some o) (nz : z ≠ S) (nTI : TI ≠ S) (nTO : TO ≠ S) (n1 : i1 ≠ S) (n2 : i2 ≠ S) (m1 : l1 ≠ S) (m2 : l2 ≠ S) : ZlSt h' S z TI TO i1 i2 l1 l2 xs ys i := by
  refine ⟨up _ _ nTI Z.ti, Z.it1.at fun o e => up _ _ n1 e, Z.it2.at fun o e => up _ _ n2 e, let ⟨o, e, r⟩ := Z.L1; ⟨o, up _ _ m1 e, r⟩, let ⟨o, e, r⟩ := Z.L2; ⟨o, up _ _ m2 e, r⟩, ?_⟩
  rcases Z.st with ⟨a, x, y, b⟩ | ⟨T, f, oT, a, b, c, cr⟩
  · exact .inl ⟨up _ _ nz a, x, y, up _ _ nTO b⟩
  · exact .inr ⟨T, f, oT, up _ _ nz a, up _ _ c b, c, cr⟩
theorem zl_item {x y : Value} {Q : Option Value → Shared → Prop} (D : ZipApart z TI TO i1 i2 l1 l2) (Z : ZlSt s.heap S z TI TO i1 i2 l1 l2 xs ys i) (hS : S < s.heap.objs.size) (hx : xs[i]? = some x) (hy : ys[i]? = some y)
    (hQ : ∀ h', ZlSt h' S z TI TO i1 i2 l1 l2 xs ys (i + 1) → IsPair h' s.heap.objs.size x y → h'.objs.size = s.heap.objs.size + 1 →
      (∀ c o, c ≠ z → c ≠ TO → c ≠ i1 → c ≠ i2 → s.heap.get? c = some o → h'.get? c = some o) → Q (some (.ref s.heap.objs.size)) { s with heap := h' }) :
    wpAny (model prog w) A (pyNext (.ref z)) Q E s := by
  rcases Z.st with ⟨hz, a, b, hTO⟩ | ⟨T, f, oT, hz, hT, nT, nTz, nT1, nT2⟩
  · refine wpAny_pyNext_zip_item D hz Z.ti hTO Z.it1 Z.it2 Z.L1 Z.L2 hx hy fun h' a1 a2 a3 a4 a5 a6 a7 => hQ h' ⟨a7 _ _ D.TIz D.TITO D.TIi1 D.TIi2 Z.ti, a3, a4, ?_, ?_, .inr ⟨s.heap.objs.size, false, _, a1, a5, Nat.ne_of_gt hS, Nat.ne_of_gt (Heap.lt_size hz), Nat.ne_of_gt (let ⟨_, e, _⟩ := Z.it1; Heap.lt_size e), Nat.ne_of_gt (let ⟨_, e, _⟩ := Z.it2; Heap.lt_size e)⟩⟩ a5 a6 a7
    · obtain ⟨o, e, r⟩ := Z.L1
      exact ⟨o, a7 _ _ D.l1z D.l1TO D.l1i1 D.l1i2 e, r⟩
    · obtain ⟨o, e, r⟩ := Z.L2
      exact ⟨o, a7 _ _ D.l2z D.l2TO D.l2i1 D.l2i2 e, r⟩
  · refine wpAny_pyNext_zip_item_held D hz hT Z.ti Z.it1 Z.it2 Z.L1 Z.L2 hx hy fun h' a1 a3 a4 a5 a6 a7 => hQ h' ⟨a7 _ _ D.TIz D.TIi1 D.TIi2 Z.ti, a3, a4, ?_, ?_, .inr ⟨T, true, oT, a1, a7 _ _ nTz nT1 nT2 hT, nT, nTz, nT1, nT2⟩⟩ a5 a6 (fun c o c1 _ c3 c4 e => a7 c o c1 c3 c4 e)
    · obtain ⟨o, e, r⟩ := Z.L1
      exact ⟨o, a7 _ _ D.l1z D.l1i1 D.l1i2 e, r⟩
    · obtain ⟨o, e, r⟩ := Z.L2
      exact ⟨o, a7 _ _ D.l2z D.l2i1 D.l2i2 e, r⟩
theorem zl_done {Q : Option Value → Shared → Prop} (hh : A.handled = none) (D : ZipApart z TI TO i1 i2 l1 l2) (Z : ZlSt s.heap S z TI TO i1 i2 l1 l2 xs ys i) (he : xs[i]? = none ∨ ys[i]? = none)
    (hQ : ∀ h', (∀ c o, c ≠ z → c ≠ TO → c ≠ i1 → c ≠ i2 → s.heap.get? c = some o → h'.get? c = some o) → Q none { s with heap := h' }) : wpAny (model prog w) A (pyNext (.ref z)) Q E s := by
  rcases Z.st with ⟨hz, a, b, hTO⟩ | ⟨T, f, oT, hz, hT, nT, nTz, nT1, nT2⟩
  · exact wpAny_pyNext_zip_end hh D hz Z.ti hTO Z.it1 Z.it2 Z.L1 Z.L2 he hQ
  · exact wpAny_pyNext_zip_end_held hh D hz hT Z.ti Z.it1 Z.it2 Z.L1 Z.L2 he fun h' k => hQ h' fun c o c1 _ c3 c4 e => k c o c1 c3 c4 e
end
section
variable {prog : Program} {w : World} {A : Around} {s : Shared} {R : Result → Shared → Prop} {S z TI TO i1 i2 l1 l2 : Addr} {xs ys : Array Value} {n : Nat}
theorem zl_loop {lo : Addr} (hh : A.handled = none) (D : ZipApart z TI TO i1 i2 l1 l2) (hx : xs.size = n) (hy : ys.size = n) (oS : S < lo) (oz : z < lo) (oTO : TO < lo) (o1 : i1 < lo) (o2 : i2 < lo)
    (nz : z ≠ S) (nTI : TI ≠ S) (nTO : TO ≠ S) (n1 : i1 ≠ S) (n2 : i2 ≠ S) (m1 : l1 ≠ S) (m2 : l2 ≠ S) (hn : n ≤ sizeLine) (res : Value) {h₁ : Heap}
    (hR : ∀ h' tk acc c as, (∀ b o, b ≠ S → b ≠ z → b ≠ TO → b ≠ i1 → b ≠ i2 → h₁.get? b = some o → h'.get? b = some o) → h'.get? S = some { cls := .type "list", dict := none, data := .seq acc c, slots := #[] } → as.length = n → ZlG xs ys lo h' as →
      acc.toList = as.map Value.ref → R (.ok (.ret res)) { s with heap := h', toks := tk }) :
    ∀ (k i : Nat) (h : Heap) (tk c : Nat) (acc : Array Value) (as : List Addr), n - i = k → i ≤ n → ZlSt h S z TI TO i1 i2 l1 l2 xs ys i → (∀ b o, b ≠ S → b ≠ z → b ≠ TO → b ≠ i1 → b ≠ i2 → h₁.get? b = some o → h.get? b = some o) →
      h.get? S = some { cls := .type "list", dict := none, data := .seq acc c, slots := #[] } → acc.toList = as.map Value.ref → as.length = i → ZlG xs ys lo h as → lo ≤ h.objs.size →
      codeAny (model prog w) A (.builtin "list.extend.loop" ⟨[.ref S, .ref z, res], []⟩) R { s with heap := h, toks := tk } := by
  intro k
  induction k with
  | zero =>
    intro i h tk c acc as hk hi hst hkeep hS hacc hal hG hIs
    have hin : i = n := by omega
    refine codeAny_builtin PySem.F.entry_extend_loop ?_
    rw [Around.under_plainId PySem.F.plain_extend_loop _]
    show wpAny _ A.in1 (pyNext (.ref z) >>= _) _ _ _
    refine wpAny_bind (zl_done (s := { s with heap := h, toks := tk }) (A := A.in1) hh D hst (.inl (Array.getElem?_eq_none (by omega))) fun h' he => ?_)
    refine wpAny_pure (hR h' tk acc c as (fun b o h1 h2 h3 h4 h5 e => he b o h2 h3 h4 h5 (hkeep b o h1 h2 h3 h4 h5 e)) (he S _ nz.symm nTO.symm n1.symm n2.symm hS) (by omega) ⟨hG.rise, hG.above, fun j a hj => ?_⟩ hacc)
    obtain ⟨x, y, e1, e2, e3⟩ := hG.pairs j a hj
    have ab := hG.above a (List.mem_of_getElem? hj)
    exact ⟨x, y, e1, e2, he a _ (Nat.ne_of_gt (Nat.lt_of_lt_of_le oz ab)) (Nat.ne_of_gt (Nat.lt_of_lt_of_le oTO ab)) (Nat.ne_of_gt (Nat.lt_of_lt_of_le o1 ab)) (Nat.ne_of_gt (Nat.lt_of_lt_of_le o2 ab)) e3⟩
  | succ k ih =>
    intro i h tk c acc as hk hi hst hkeep hS hacc hal hG hIs
    have hlt : i < n := by omega
    have hsz : acc.size = i := by rw [← Array.length_toList, hacc, List.length_map, hal]
    refine codeAny_builtin PySem.F.entry_extend_loop ?_
    rw [Around.under_plainId PySem.F.plain_extend_loop _]
    show wpAny _ A.in1 (pyNext (.ref z) >>= _) _ _ _
    have ex : xs[i]? = some xs[i] := Array.getElem?_eq_getElem (by omega)
    have ey : ys[i]? = some ys[i] := Array.getElem?_eq_getElem (by omega)
    refine wpAny_bind (zl_item (s := { s with heap := h, toks := tk }) D hst (Heap.lt_size hS) ex ey fun h' hst' ht hz hkp => ?_)
    dsimp only at ht hz hkp ⊢
    have hS' := hkp S _ nz.symm nTO.symm n1.symm n2.symm hS
    have up : ∀ b o, b ≠ S → h'.get? b = some o → (h'.update S (Obj.mapSeq (·.push (Value.ref h.objs.size)))).get? b = some o := fun b o hb e => (Heap.get?_update_other _ _ (Ne.symm hb)).trans e
    have hSl : S < h.objs.size := Heap.lt_size hS
    show wpAny _ A.in1 (updateSeq S (·.push (Value.ref h.objs.size)) >>= _) _ _ _
    refine wpAny_bind ?_
    refine wpAny_updateSeq hS' rfl (wpAny_pure ⟨plainId_quiet PySem.F.plain_extend_loop _, ih (i + 1) _ tk _ (acc.push (Value.ref h.objs.size)) (as ++ [h.objs.size]) (by omega) hlt (hst'.keep up nz nTI nTO n1 n2 m1 m2)
      (fun b o h1 h2 h3 h4 h5 e => up b o h1 (hkp b o h2 h3 h4 h5 (hkeep b o h1 h2 h3 h4 h5 e))) (Heap.get?_update_self _ hS' rfl) (by rw [Array.toList_push, hacc, List.map_append]; rfl) (by rw [List.length_append, hal]; rfl) ⟨?_, ?_, ?_⟩ ?_⟩) (by rw [hsz]; omega) (by show (acc.push (Value.ref h.objs.size)).size ≤ sizeLine + 1; rw [Array.size_push, hsz]; omega)
    · refine List.pairwise_append.mpr ⟨hG.rise, List.pairwise_singleton _ _, fun a ha b hb => ?_⟩
      rw [List.mem_singleton.mp hb]
      exact hG.there ha
    · intro a ha
      rcases List.mem_append.mp ha with ha | ha
      · exact hG.above a ha
      · rw [List.mem_singleton.mp ha]; exact hIs
    · intro j b hj
      rcases Nat.lt_trichotomy j as.length with h1 | h1 | h1
      · rw [List.getElem?_append_left h1] at hj
        obtain ⟨x, y, e1, e2, e3⟩ := hG.pairs j b hj
        have ab := hG.above b (List.mem_of_getElem? hj)
        exact ⟨x, y, e1, e2, up b _ (Nat.ne_of_gt (Nat.lt_of_lt_of_le oS ab)) (hkp b _ (Nat.ne_of_gt (Nat.lt_of_lt_of_le oz ab)) (Nat.ne_of_gt (Nat.lt_of_lt_of_le oTO ab)) (Nat.ne_of_gt (Nat.lt_of_lt_of_le o1 ab)) (Nat.ne_of_gt (Nat.lt_of_lt_of_le o2 ab)) e3)⟩
      · subst h1
        have hb : h.objs.size = b := by simpa using hj
        subst hb
        subst hal
        exact ⟨_, _, ex, ey, up _ _ (Nat.ne_of_gt hSl) ht⟩
      · have hnone : (as ++ [h.objs.size])[j]? = none := List.getElem?_eq_none (by rw [List.length_append, List.length_singleton]; omega)
        rw [hnone] at hj; cases hj
    · have e : (h'.update S (Obj.mapSeq (·.push (Value.ref h.objs.size)))).get? h.objs.size = _ := up _ _ (Nat.ne_of_gt hSl) ht
      exact Nat.le_of_lt (Nat.lt_of_le_of_lt hIs (Heap.lt_size e))
end
section
variable {prog : Program} {w : World} {A : Around} {E : Value → Shared → Prop} {s : Shared} {S z TI TO i1 i2 l1 l2 : Addr} {xs ys : Array Value} {n : Nat}
theorem hint_zip {Q : Bool → Shared → Prop} (hT : s.TypeIs (.ref z) "zip") (h : Q true s) : wpAny (model prog w) A (Builtin.List.listLengthHint (.ref z)) Q E s := by
  unfold Builtin.List.listLengthHint
  refine wpAny_bind (wpAny_specialOf hT nolen_zip ?_)
  show wpAny _ A (specialOf (Value.ref z) (Str.ofString "__length_hint__") >>= _) _ _ _
  refine wpAny_bind (wpAny_specialOf hT nohint_zip ?_)
  exact wpAny_pure h
theorem zl_extend {R : Result → Shared → Prop} (hh : A.handled = none) (D : ZipApart z TI TO i1 i2 l1 l2) (hx : xs.size = n) (hy : ys.size = n)
    (nz : z ≠ S) (nTI : TI ≠ S) (nTO : TO ≠ S) (n1 : i1 ≠ S) (n2 : i2 ≠ S) (m1 : l1 ≠ S) (m2 : l2 ≠ S) (hn : n ≤ sizeLine) (res : Value) (c₀ : Nat) (hz : IsZip s.heap z TI TO .none) (hTO : IsPair s.heap TO .none .none)
    (Z : ZlSt s.heap S z TI TO i1 i2 l1 l2 xs ys 0) (hS : s.heap.get? S = some { cls := .type "list", data := .seq #[] c₀ })
    (hR : ∀ h' tk acc c as, (∀ b o, b ≠ S → b ≠ z → b ≠ TO → b ≠ i1 → b ≠ i2 → s.heap.get? b = some o → h'.get? b = some o) → h'.get? S = some { cls := .type "list", dict := none, data := .seq acc c, slots := #[] } → as.length = n → ZlG xs ys s.heap.objs.size h' as →
      acc.toList = as.map Value.ref → R (.ok (.ret res)) { s with heap := h', toks := tk }) :
    wpAny (model prog w) A.in1 (Builtin.List.listExtendWith (.ref S) (.ref z) res)
      (fun fin s' => match fin with | .done f => R (.ok f) s' | .again c' => c'.quiet = true ∧ codeAny (model prog w) A c' R s') (fun e s' => R (.error e) s') s := by
  have hT : s.TypeIs (.ref z) "zip" := ⟨_, hz, rfl⟩
  have key : ∀ (h : Heap) (c₁ tk : Nat), (∀ b o, b ≠ S → s.heap.get? b = some o → h.get? b = some o) → s.heap.objs.size ≤ h.objs.size →
      h.get? S = some { cls := .type "list", data := .seq #[] c₁ } → codeAny (model prog w) A (.builtin "list.extend.loop" ⟨[.ref S, .ref z, res], []⟩) R { s with heap := h, toks := tk } := by
    intro h c₁ tk hk hsz hS₁
    exact zl_loop (s := s) (h₁ := s.heap) hh D hx hy (Heap.lt_size hS) (Heap.lt_size hz) (Heap.lt_size hTO) (let ⟨_, e, _⟩ := Z.it1; Heap.lt_size e) (let ⟨_, e, _⟩ := Z.it2; Heap.lt_size e) nz nTI nTO n1 n2 m1 m2 hn res hR
      n 0 h tk c₁ #[] [] (Nat.sub_zero _) (Nat.zero_le _) (Z.keep hk nz nTI nTO n1 n2 m1 m2) (fun b o hb _ _ _ _ e => hk b o hb e) hS₁ rfl rfl
      ⟨List.Pairwise.nil, (fun _ ha => nomatch ha), (fun j a hj => by simp at hj)⟩ hsz
  unfold Builtin.List.listExtendWith
  refine wpAny_bind (wpAny_typeOf (T := "zip") hT ?_)
  have h1 : Builtin.List.listSameRef (.ref S) (.ref z) = false := by simp [Builtin.List.listSameRef, nz.symm]
  have h2 : (Value.type "zip" == Value.type "list") = false := by decide
  have h3 : (Value.type "zip" == Value.type "tuple") = false := by decide
  simp only [h1, h2, h3, Bool.or_false, Bool.false_eq_true, if_false]
  refine wpAny_bind (wpAny_pyIter_zip hz ?_)
  refine wpAny_bind (wpAny_holding (hint_zip hT ?_))
  refine wpAny_ite_split (fun _ => ?_) (fun _ => wpAny_pure ⟨plainId_quiet PySem.F.plain_extend_loop _, key _ c₀ _ (fun b o _ e => e) (Nat.le_refl _) hS⟩)
  refine wpAny_bind (wpAny_rule ?_)
  refine wpAny_bind ?_
  show wpAny _ _ (updateSeq S (·.push .none) >>= fun _ => updateSeq S (·.pop)) _ _ _
  refine wpAny_bind (wpAny_updateSeq hS rfl ?_)
  have hS₂ := Heap.get?_update_self (Obj.mapSeq (·.push Value.none)) hS rfl
  refine wpAny_updateSeq (hz := by seq_fits) hS₂ rfl ?_
  have hS₃ := Heap.get?_update_self (Obj.mapSeq (·.pop)) hS₂ rfl
  refine wpAny_pure ⟨plainId_quiet PySem.F.plain_extend_loop _, key _ _ _ (fun b o hb e => ?_) ?_ hS₃⟩
  · exact (Heap.get?_update_other _ _ (Ne.symm hb)).trans ((Heap.get?_update_other _ _ (Ne.symm hb)).trans e)
  · simp
theorem ZlG.low {xs ys : Array Value} {lo lo' : Addr} {h : Heap} {as : List Addr} (g : ZlG xs ys lo h as) (hl : lo' ≤ lo) : ZlG xs ys lo' h as := ⟨g.rise, fun a ha => Nat.le_trans hl (g.above a ha), g.pairs⟩
theorem zl_call {Q : Value → Shared → Prop} (hh : A.handled = none) (D : ZipApart z TI TO i1 i2 l1 l2) (hx : xs.size = n) (hy : ys.size = n) (hn : n ≤ sizeLine) (hz : IsZip s.heap z TI TO .none) (hTI : IsPair s.heap TI (.ref i1) (.ref i2)) (hTO : IsPair s.heap TO .none .none)
    (h1 : s.heap.IsListIter i1 l1 0) (h2 : s.heap.IsListIter i2 l2 0) (hl1 : s.heap.IsList l1 xs) (hl2 : s.heap.IsList l2 ys)
    (hQ : ∀ h' tk acc c as, (∀ b o, b ≠ z → b ≠ TO → b ≠ i1 → b ≠ i2 → s.heap.get? b = some o → h'.get? b = some o) → h'.get? s.heap.objs.size = some { cls := .type "list", dict := none, data := .seq acc c, slots := #[] } → as.length = n → ZlG xs ys (s.heap.objs.size + 1) h' as →
      acc.toList = as.map Value.ref → Q (.ref s.heap.objs.size) { s with heap := h', toks := tk }) :
    wpAny (model prog w) A (call (.type "list") [.ref z]) Q E s := by
  refine callType_codes (Q₁ := fun obj s₁ => obj = .ref s.heap.objs.size ∧ s₁ = { s with heap := s.heap.push { cls := .type "list", data := .seq #[] } }) PySem.F.called_list (PySem.F.typeCall_list_1 _) PySem.F.entry_list_init
    (code_list_new _ ⟨rfl, rfl⟩) fun obj s₁ h₁ => ?_
  obtain ⟨rfl, rfl⟩ := h₁
  have hS : (s.heap.push { cls := .type "list", data := .seq #[] }).get? s.heap.objs.size = some { cls := .type "list", data := .seq #[] } := Heap.get?_push_size _ rfl
  have ne : ∀ {b o}, s.heap.get? b = some o → b ≠ s.heap.objs.size := fun e => Nat.ne_of_lt (Heap.lt_size e)
  have nz := ne hz
  have nTI := ne hTI
  have nTO := ne hTO
  obtain ⟨o1, e1, r1⟩ := h1
  obtain ⟨o2, e2, r2⟩ := h2
  obtain ⟨o3, e3, r3⟩ := hl1
  obtain ⟨o4, e4, r4⟩ := hl2
  refine ⟨⟨_, hS, rfl⟩, PySem.F.args_list_init_2 _ _, ?_⟩
  generalize hSa : s.heap.objs.size = S at hS hQ nz nTI nTO
  have m1 : i1 ≠ S := by rw [← hSa]; exact ne e1
  have m2 : i2 ≠ S := by rw [← hSa]; exact ne e2
  have m3 : l1 ≠ S := by rw [← hSa]; exact ne e3
  have m4 : l2 ≠ S := by rw [← hSa]; exact ne e4
  have sz : (s.heap.push { cls := .type "list", data := .seq #[] }).objs.size = S + 1 := by rw [Heap.size_push, hSa]
  have up : ∀ {b o}, s.heap.get? b = some o → (s.heap.push { cls := .type "list", data := .seq #[] }).get? b = some o := fun e => Heap.get?_push_of_some _ e
  generalize s.heap.push { cls := .type "list", data := .seq #[] } = G at hS sz up ⊢
  show wpAny _ _ (do let old ← Builtin.List.listItems (.ref S); Builtin.List.listUpdate (.ref S) (fun _ => #[]); letGo old.toList.reverse; Builtin.List.listExtendWith (.ref S) (.ref z) .none) _ _ _
  refine wpAny_bind ?_
  unfold Builtin.List.listItems
  refine wpAny_bind (wpAny_seqItems hS rfl (wpAny_pure ?_))
  show wpAny _ _ (updateSeq S (fun _ => #[]) >>= fun _ => letGo (#[] : Array Value).toList.reverse >>= fun _ => Builtin.List.listExtendWith (.ref S) (.ref z) .none) _ _ _
  refine wpAny_bind (wpAny_updateSeq hS rfl ?_)
  have hS₂ := Heap.get?_update_self (Obj.mapSeq (fun _ => (#[] : Array Value))) hS rfl
  have oth : ∀ b o, b ≠ S → s.heap.get? b = some o → (G.update S (Obj.mapSeq (fun _ => (#[] : Array Value)))).get? b = some o :=
    fun b o hb e => (Heap.get?_update_other _ _ (Ne.symm hb)).trans (up e)
  refine wpAny_bind (wpAny_letGo ?_)
  have sz2 : (G.update S (Obj.mapSeq (fun _ => (#[] : Array Value)))).objs.size = S + 1 := by rw [← sz]; simp
  refine zl_extend (A := A.in1) hh D hx hy nz nTI nTO m1 m2 m3 m4 hn .none _ (oth _ _ nz hz) (oth _ _ nTO hTO) ⟨oth _ _ nTI hTI, ⟨o1, oth _ _ m1 e1, r1⟩, ⟨o2, oth _ _ m2 e2, r2⟩, ⟨o3, oth _ _ m3 e3, r3⟩, ⟨o4, oth _ _ m4 e4, r4⟩, .inl ⟨oth _ _ nz hz, _, _, oth _ _ nTO hTO⟩⟩ hS₂ (fun h' tk acc c as hk hS' hl hG hacc => ?_)
  refine ⟨rfl, hQ h' tk acc c as (fun b o b1 b2 b3 b4 e => ?_) hS' hl (hG.low (Nat.le_of_eq sz2.symm)) hacc⟩
  have nb : b ≠ S := by rw [← hSa]; exact ne e
  exact hk b o nb b1 b2 b3 b4 (oth b o nb e)
end
end Kx
/-! list(zip(xs, ys)) as a rule; many new objects at once. -/
namespace Kx
open PySem PySem.Spec PyProof.Rows L2
def updL (H : Hp) : List (Addr × HO) → Hp
  | [] => H
  | p :: l => upd (updL H l) p.1 p.2
theorem updL_out {H : Hp} {a : Addr} : ∀ {l : List (Addr × HO)}, a ∉ l.map Prod.fst → updL H l a = H a
  | [], _ => rfl
  | p :: l, h => by
    rw [List.map_cons, List.mem_cons, not_or] at h
    rw [updL, upd_ne h.1]
    exact updL_out h.2
theorem updL_at {H : Hp} {a : Addr} {o : HO} : ∀ {l : List (Addr × HO)}, (l.map Prod.fst).Nodup → (a, o) ∈ l → updL H l a = some o
  | [], _, h => by cases h
  | p :: l, n, h => by
    rw [List.map_cons, List.nodup_cons] at n
    rcases List.mem_cons.mp h with e | h
    · subst e
      exact upd_same
    · have : a ≠ p.1 := fun e => n.1 (by rw [← e]; exact List.mem_map.mpr ⟨_, h, rfl⟩)
      rw [updL, upd_ne this]
      exact updL_at n.2 h
theorem laidL {X : Cx} {pins : List (Addr × Obj)} {σ : L2.St} {H : Hp} {s : Shared} (I : Inv X pins σ H s) : ∀ (l : List (Addr × HO)), (l.map Prod.fst).Nodup → ∀ (h' : Heap) (t' : Nat), (∀ b u, s.heap.get? b = some u → h'.get? b = some u) →
    (∀ p ∈ l, s.heap.objs.size ≤ p.1 ∧ ∀ (G : Heap) (H' : Hp), G.get? p.1 = h'.get? p.1 → ObjOk X.prog X.w H' G p.1 p.2) → Inv X pins σ (updL H l) { s with heap := h', toks := t' }
  | [], _, h', t', k, _ => I.kept k
  | p :: l, n, h', t', k, ho => by
    rw [List.map_cons, List.nodup_cons] at n
    obtain ⟨hp, op⟩ := ho p List.mem_cons_self
    obtain ⟨G, g1, g2⟩ := restrict h' fun b => decide (b ≠ p.1)
    have gk : ∀ b, b ≠ p.1 → G.get? b = h'.get? b := fun b hb => g1 b (decide_eq_true hb)
    have ga : G.get? p.1 = none := g2 p.1 (decide_eq_false fun z => z rfl)
    have I1 := laidL I l n.2 G t' (fun b u e => by
      rw [gk b (Nat.ne_of_lt (Nat.lt_of_lt_of_le (Heap.lt_size e) hp))]
      exact k b u e) fun q hq => by
      obtain ⟨a1, a2⟩ := ho q (List.mem_cons_of_mem _ hq)
      refine ⟨a1, fun G' H' e => a2 G' H' ?_⟩
      rw [e]
      exact gk q.1 fun z => n.1 (by rw [← z]; exact List.mem_map.mpr ⟨q, hq, rfl⟩)
    have I2 := I1.laidN (h' := h') (a := p.1) (o := p.2) (t' := t') (fun b u e => by
      have hb : b ≠ p.1 := fun z => by
        have e : G.get? b = some u := e
        rw [z, ga] at e
        cases e
      exact (gk b hb).symm.trans e) ga (by rw [updL_out n.1]; exact I.hok.fresh hp) (op h' _ rfl)
    exact I2
theorem vals_refs : ∀ as : List Addr, Vals (as.map V.ref) (as.map Value.ref)
  | [] => .nil
  | a :: as => .cons rfl (vals_refs as)
/-- the pairs of two lists, at new addresses -/
def tLz (K : PySem.W.Frag) (ta : TA) : TE := fun σ H Q => ta σ H fun vs H1 => ∃ a b xs ys, vs = [.ref a, .ref b] ∧ SqL K H1 a xs ∧ SqL K H1 b ys ∧ xs.length = ys.length ∧
  ∀ (ps : List Addr) (p : Addr) (H2 : Hp), ps.length = xs.length → Same H1 H2 → H1 p = none → H2 p = some (.lst (ps.map V.ref)) → (∀ (j : Nat) q, ps[j]? = some q → ∃ x y, xs[j]? = some x ∧ ys[j]? = some y ∧ H2 q = some (.tup [x, y])) → Q (.ref p) H2
theorem pe_listZip {X : Cx} {e e2 : Expr} {ta : TA} {p1 p2 q pos : Pos} (hc : X.calm = true) (hg : Gl X "list") (hm : X.mg "list" = none) (hg2 : Gl X "zip") (hm2 : X.mg "zip" = none) (ha : PA X [e, e2] ta)
    (hs : starEach [e, e2] X.env = (false, eval e X.env) :: starEach [e2] X.env := by rfl) (hpl : (backTo q (starEach [e2] X.env)).any (·.1) = false := by rfl)
    (na : starEach [.Call (.Name "zip" p2) [e, e2] [] q] X.env = (false, eval (.Call (.Name "zip" p2) [e, e2] [] q) X.env) :: starEach [] X.env := by rfl) :
    PE X (.Call (.Name "list" p1) [.Call (.Name "zip" p2) [e, e2] [] q] [] pos) (tLz X.K ta) := by
  refine ⟨fun pins s σ H Q I h => ?_⟩
  refine Call_ (ld_blt I hg hm boot_list (PyProof.Rows.callWith_type1 (args_cons ?_ na) na))
  refine Call_ (ld_blt I hg2 hm2 PyProof.Rows.boot_zip (PyProof.Rows.callWith_type1 (thn (ha.run q pins s σ H _ I h) fun us s1 ⟨vs, H1, I1, r1, q1⟩ => ?_) hs hpl))
  obtain ⟨a, b, xs, ys, ex, hqx, hqy, hl, qq⟩ := q1
  subst ex
  cases r1 with
  | cons r rr =>
    cases rr with
    | cons r' rr =>
      cases rr
      cases r
      cases r'
      obtain ⟨its, rv, pl1, z1⟩ := I1.list hqx
      obtain ⟨its2, rv2, pl2, z2⟩ := I1.list hqy
      have la : a < s1.heap.objs.size := pl1.lt
      have lb : b < s1.heap.objs.size := pl2.lt
      refine call_zip_2 pl1.isList pl2.isList fun h' hz hTI hTO h1 h2 hsz hk => args_nil ?_
      have li1 := rv.length
      have li2 := rv2.length
      refine zl_call (s := { s1 with heap := h' }) (n := xs.length) (I1.ok.hd hc) (PySem.W.ktu_apart s1.heap.objs.size a b la lb) (by rw [List.size_toArray, ← li1]) (by rw [List.size_toArray, ← li2, hl]) z1 hz hTI hTO h1 h2 (let ⟨o, e, r⟩ := pl1.isList; ⟨o, hk _ _ e, r⟩) (let ⟨o, e, r⟩ := pl2.isList; ⟨o, hk _ _ e, r⟩) fun h2' tk acc c as kp hS hlen hG hacc => ?_
      dsimp only at hS hG hacc kp
      have S0 : s1.heap.objs.size ≤ h'.objs.size := by omega
      obtain ⟨prs, epr⟩ : ∃ prs : List (Addr × HO), prs = (as.zip (xs.zip ys)).map fun z => (z.1, HO.tup [z.2.1, z.2.2]) := ⟨_, rfl⟩
      have lz : (xs.zip ys).length = as.length := by rw [List.length_zip, ← hl, Nat.min_self, hlen]
      have efs : prs.map Prod.fst = as := by
        rw [epr, List.map_map]
        show (as.zip (xs.zip ys)).map Prod.fst = as
        exact List.map_fst_zip (Nat.le_of_eq lz.symm)
      have eget : ∀ (j : Nat) (q : Addr), as[j]? = some q → ∃ x y, xs[j]? = some x ∧ ys[j]? = some y ∧ (q, HO.tup [x, y]) ∈ prs := fun j q hq => by
        have lj := (List.getElem?_eq_some_iff.mp hq).1
        have l1 : j < xs.length := by omega
        have l2 : j < ys.length := by omega
        refine ⟨xs[j], ys[j], List.getElem?_eq_getElem l1, List.getElem?_eq_getElem l2, ?_⟩
        rw [epr]
        refine List.mem_map.mpr ⟨(q, xs[j], ys[j]), ?_, rfl⟩
        refine List.mem_of_getElem? (i := j) ?_
        rw [List.getElem?_zip_eq_some]
        exact ⟨hq, List.getElem?_zip_eq_some.mpr ⟨List.getElem?_eq_getElem l1, List.getElem?_eq_getElem l2⟩⟩
      have nds : as.Nodup := hG.rise.imp fun h => Nat.ne_of_lt h
      have nS : h'.objs.size ∉ as := fun z => by
        have := hG.above _ z
        exact absurd this (Nat.not_succ_le_self _)
      have I2 := laidL (h' := h2') (t' := tk) I1 ((h'.objs.size, .lst (as.map V.ref)) :: prs) (by
          rw [List.map_cons, efs, List.nodup_cons]
          exact ⟨nS, nds⟩) (fun b u e => kp b u (Nat.ne_of_lt (Nat.lt_of_lt_of_le (Heap.lt_size e) (Nat.le_add_right _ _))) (Nat.ne_of_lt (Nat.lt_of_lt_of_le (Heap.lt_size e) (Nat.le_add_right _ _))) (Nat.ne_of_lt (Heap.lt_size e)) (Nat.ne_of_lt (Nat.lt_of_lt_of_le (Heap.lt_size e) (Nat.le_add_right _ _))) (hk b u e)) (fun p hp => by
          rcases List.mem_cons.mp hp with e | hp
          · subst e
            refine ⟨S0, fun G H' eG => ⟨by rw [List.length_map, hlen]; exact z1, as.map Value.ref, c, vals_refs as, ?_⟩⟩
            rw [eG, hS, ← hacc, Array.toArray_toList]
          · rw [epr] at hp
            obtain ⟨⟨q, x, y⟩, hm1, rfl⟩ := List.mem_map.mp hp
            obtain ⟨j, hj⟩ := List.mem_iff_getElem?.mp hm1
            rw [List.getElem?_zip_eq_some] at hj
            obtain ⟨hq, hxy⟩ := hj
            obtain ⟨hx, hy⟩ := List.getElem?_zip_eq_some.mp hxy
            obtain ⟨u, hu, ru⟩ := rv.get hx
            obtain ⟨v, hv, ru2⟩ := rv2.get hy
            obtain ⟨x', y', e1, e2, e3⟩ := hG.pairs j q hq
            have e1 : its[j]? = some x' := by simpa using e1
            have e2 : its2[j]? = some y' := by simpa using e2
            rw [hu] at e1
            rw [hv] at e2
            cases e1
            cases e2
            have aq := hG.above q (List.mem_of_getElem? hq)
            refine ⟨Nat.le_trans S0 (Nat.le_of_succ_le aq), fun G H' eG => ⟨by show 2 ≤ sizeLine; decide, [u, v], .cons ru (.cons ru2 .nil), ?_⟩⟩
            exact ⟨_, eG.trans e3, rfl, _, rfl⟩)
      have fr : ∀ b o, H1 b = some o → b ∉ ((h'.objs.size, HO.lst (as.map V.ref)) :: prs).map Prod.fst := fun b o e z => by
        have lt : b < s1.heap.objs.size := by
          apply Classical.byContradiction
          intro g
          rw [I1.hok.fresh (Nat.le_of_not_lt g)] at e
          cases e
        rw [List.map_cons, efs] at z
        rcases List.mem_cons.mp z with e | z
        · have e : b = h'.objs.size := e
          rw [e] at lt
          exact absurd (Nat.lt_of_lt_of_le lt S0) (Nat.lt_irrefl _)
        · exact absurd (Nat.lt_of_lt_of_le lt (Nat.le_trans S0 (Nat.le_of_succ_le (hG.above _ z)))) (Nat.lt_irrefl _)
      refine ⟨.ref h'.objs.size, _, I2, rfl, qq as h'.objs.size _ hlen (fun b o e => (updL_out (fr b o e)).trans e) (I1.hok.fresh S0) (updL_at (by rw [List.map_cons, efs, List.nodup_cons]; exact ⟨nS, nds⟩) List.mem_cons_self) fun j q hq => ?_⟩
      obtain ⟨x, y, hx, hy, hm⟩ := eget j q hq
      exact ⟨x, y, hx, hy, updL_at (by rw [List.map_cons, efs, List.nodup_cons]; exact ⟨nS, nds⟩) (List.mem_cons_of_mem _ hm)⟩
end Kx
/-! New names drawn. -/
namespace K12
open PySem PySem.Spec PyProof.Rows L2 Kx
def setS (l : List (Str × Str)) (k v : Str) : List (Str × Str) := if (l.any fun p => decide (p.1 = k)) = true then l.map (fun p => if p.1 = k then (p.1, v) else p) else l ++ [(k, v)]
def mergeS (a l : List (Str × Str)) : List (Str × Str) := l.foldl (fun a p => setS a p.1 p.2) a
theorem strD_put (l : List (Str × Str)) (k v : Str) : putK (strD l) (Sum.inr k) (V.str v) = strD (setS l k v) := by
  have e1 : ((strD l).any fun kv => decide (kv.1 = (Sum.inr k : Key))) = (l.any fun p => decide (p.1 = k)) := by
    rw [strD, List.any_map]
    congr 1
    funext p
    show decide ((Sum.inr p.1 : Key) = Sum.inr k) = decide (p.1 = k)
    by_cases h : p.1 = k
    · rw [decide_eq_true h, decide_eq_true (by rw [h])]
    · rw [decide_eq_false h, decide_eq_false fun z => h (Sum.inr.inj z)]
  unfold putK setS
  rw [e1]
  by_cases h : (l.any fun p => decide (p.1 = k)) = true
  · rw [if_pos h, if_pos h, strD, strD, List.map_map, List.map_map]
    refine List.map_congr_left fun p _ => ?_
    show (if (Sum.inr p.1 : Key) = Sum.inr k then ((Sum.inr p.1 : Key), V.str v) else ((Sum.inr p.1 : Key), V.str p.2)) = ((Sum.inr (if p.1 = k then (p.1, v) else p).1 : Key), V.str (if p.1 = k then (p.1, v) else p).2)
    by_cases hp : p.1 = k
    · rw [if_pos hp, if_pos (by rw [hp])]
    · rw [if_neg hp, if_neg fun z => hp (Sum.inr.inj z)]
  · rw [if_neg h, if_neg h, strD, strD, List.map_append]
    rfl
theorem strD_merge : ∀ (l a : List (Str × Str)), mergeK (strD a) (strD l) = strD (mergeS a l)
  | [], a => rfl
  | p :: l, a => by
    show mergeK (putK (strD a) (Sum.inr p.1) (V.str p.2)) (strD l) = _
    rw [strD_put, strD_merge l]
    rfl
theorem setS_all {Z : Str × Str → Prop} {l : List (Str × Str)} {k v : Str} (h : ∀ p, p ∈ l → Z p) (hz : Z (k, v)) : ∀ p, p ∈ setS l k v → Z p := by
  intro p hp
  unfold setS at hp
  split at hp
  · obtain ⟨q, hq, e⟩ := List.mem_map.mp hp
    by_cases hk : q.1 = k
    · rw [if_pos hk] at e
      rw [← e, hk]
      exact hz
    · rw [if_neg hk] at e
      rw [← e]
      exact h q hq
  · rcases List.mem_append.mp hp with hp | hp
    · exact h p hp
    · rw [List.mem_singleton.mp hp]
      exact hz
theorem setS_keys {l : List (Str × Str)} {k v : Str} (h : (l.map Prod.fst).Nodup) : ((setS l k v).map Prod.fst).Nodup := by
  unfold setS
  split
  · rw [List.map_map]
    rw [show (l.map (Prod.fst ∘ fun p => if p.1 = k then (p.1, v) else p)) = l.map Prod.fst from List.map_congr_left fun p _ => by
      show (if p.1 = k then (p.1, v) else p).1 = p.1
      split <;> rfl]
    exact h
  · rename_i hn
    rw [List.map_append, List.nodup_append]
    refine ⟨h, by simp, fun x hx y hy e => hn ?_⟩
    rw [List.map_singleton, List.mem_singleton] at hy
    obtain ⟨p, hp, e2⟩ := List.mem_map.mp hx
    exact List.any_eq_true.mpr ⟨p, hp, decide_eq_true (by rw [e2, e, hy])⟩
theorem setS_len (l : List (Str × Str)) (k v : Str) : (setS l k v).length ≤ l.length + 1 := by
  unfold setS
  split
  · rw [List.length_map]
    omega
  · rw [List.length_append]
    exact Nat.le_refl _
theorem mergeS_all {Z : Str × Str → Prop} : ∀ (l a : List (Str × Str)), (∀ p, p ∈ a → Z p) → (∀ p, p ∈ l → Z p) → ∀ p, p ∈ mergeS a l → Z p
  | [], a, h, _ => h
  | q :: l, a, h, hl => mergeS_all l (setS a q.1 q.2) (setS_all h (hl q List.mem_cons_self)) fun p hp => hl p (List.mem_cons_of_mem _ hp)
theorem mergeS_keys : ∀ (l a : List (Str × Str)), (a.map Prod.fst).Nodup → ((mergeS a l).map Prod.fst).Nodup
  | [], a, h => h
  | q :: l, a, h => mergeS_keys l (setS a q.1 q.2) (setS_keys h)
theorem mergeS_len : ∀ (l a : List (Str × Str)), (mergeS a l).length ≤ a.length + l.length
  | [], a => Nat.le_refl _
  | q :: l, a => by
    have := mergeS_len l (setS a q.1 q.2)
    have := setS_len a q.1 q.2
    rw [List.length_cons]
    show (mergeS (setS a q.1 q.2) l).length ≤ _
    omega
/-- pairs of texts at these addresses -/
def PrA (H : Hp) (ps : List Addr) (l : List (Str × Str)) : Prop := Paired (fun (q : Addr) (p : Str × Str) => H q = some (.tup [.str p.1, .str p.2])) ps l
theorem PrA.dict {K : PySem.W.Frag} {H : Hp} {ps : List Addr} {l : List (Str × Str)} (h : PrA H ps l) : Paired (fun p kv => SqT K H p [kV kv.1, kv.2]) ps (strD l) := by
  unfold PrA at h
  induction h with
  | nil => exact .nil
  | cons a t ih => exact .cons (SqT.of a) ih
theorem PrA.up {H H' : Hp} {ps : List Addr} {l : List (Str × Str)} (h : PrA H ps l) (t : Tups H H') : PrA H' ps l := by
  unfold PrA at h ⊢
  induction h with
  | nil => exact .nil
  | cons a r ih => exact .cons (t _ _ a) ih
theorem PrA.len {H : Hp} {ps : List Addr} {l : List (Str × Str)} (h : PrA H ps l) : ps.length = l.length := by
  unfold PrA at h
  induction h with
  | nil => rfl
  | cons a r ih => rw [List.length_cons, List.length_cons, ih]
theorem PrA.snoc {H : Hp} {ps : List Addr} {l : List (Str × Str)} {q : Addr} {x y : Str} (h : PrA H ps l) (e : H q = some (.tup [.str x, .str y])) : PrA H (ps ++ [q]) (l ++ [(x, y)]) := Paired.snoc h e
theorem PrA.app {H : Hp} : ∀ {ps qs : List Addr} {l r : List (Str × Str)}, PrA H ps l → PrA H qs r → PrA H (ps ++ qs) (l ++ r)
  | _, _, _, _, .nil, h => h
  | _, _, _, _, .cons a t, h => .cons a (PrA.app t h)
theorem PrA.zip {H : Hp} : ∀ (ps : List Addr) (zs ws : List Str), ps.length = zs.length → zs.length = ws.length → (∀ (j : Nat) q, ps[j]? = some q → ∃ x y, (zs.map V.str)[j]? = some x ∧ (ws.map V.str)[j]? = some y ∧ H q = some (.tup [x, y])) → PrA H ps (zs.zip ws)
  | [], [], [], _, _, _ => .nil
  | p :: ps, z :: zs, w :: ws, e1, e2, h => by
    obtain ⟨x, y, h1, h2, h3⟩ := h 0 p rfl
    cases h1
    cases h2
    exact .cons h3 (PrA.zip ps zs ws (Nat.succ.inj e1) (Nat.succ.inj e2) fun j q hq => h (j + 1) q hq)
  | [], _ :: _, _, e, _, _ => nomatch e
  | _ :: _, [], _, e, _, _ => nomatch e
  | [], [], _ :: _, _, e, _ => nomatch e
  | _ :: _, _ :: _, [], _, e, _ => nomatch e
mutual
theorem row_nm {r : NK} : ∀ d : PyData, formedD d = true → r ∈ rowsD d → isNm r.1 = true
  | .tuple (x :: ds), f, h => by
    rw [formedD, Bool.and_eq_true, Bool.and_eq_true] at f
    rw [rowsD] at h
    rcases List.mem_cons.mp h with e | h
    · rw [e]
      cases x with
      | str z => exact f.1.2
      | _ => cases f.1.2
    · exact row_nms ds f.2 h
  | .tuple [], f, _ => by cases f
  | .none, f, _ => by cases f
  | .bool _, f, _ => by cases f
  | .int _, f, _ => by cases f
  | .str _, f, _ => by cases f
  | .list _, f, _ => by cases f
  | .dict _, f, _ => by cases f
theorem row_nms {r : NK} : ∀ ds : List PyData, formedAll ds = true → r ∈ rowsAll ds → isNm r.1 = true
  | [], _, h => by cases h
  | d :: ds, f, h => by
    rw [formedAll, Bool.and_eq_true] at f
    rw [rowsAll] at h
    rcases List.mem_append.mp h with h | h
    · exact row_nm d f.1 h
    · exact row_nms ds f.2 h
end
end K12
/-! sorted(set(xs)), xs a list of texts: each text once. -/
namespace Kx
open PySem PySem.Spec PyProof.Rows L2
def txtOf (e : Int × Value) : Str := match e.2 with | .str x _ => x | _ => Str.empty
/-- an entry of a text -/
def TxE (w : World) (e : Int × Value) : Prop := ∃ x tk, e.2 = Value.str x tk ∧ e.1 = hashStr w x
/-- the set of the texts L at a, as it can be walked -/
structure SetT (w : World) (h : Heap) (a : Addr) (L : List Str) : Prop where
  nd : L.Nodup
  ex : ∃ o es ep t, h.get? a = some o ∧ o.ExactSet ∧ o.data = .set es ep t ∧ (∀ e ∈ es.toList, TxE w e) ∧ (es.toList.map txtOf).Perm L ∧ es.size < scanBound ∧ t.fits es.size = true ∧ Ris t.place.toList ∧ (w.params.followText "set-order" = true ∨ t.led = true)
section
variable {P : Program} {w : World} {A : Around} {E : Value → Shared → Prop} {s : Shared} {a : Addr} {L : List Str}
theorem SetT.kept {h h' : Heap} (R : SetT w h a L) (k : ∀ o, h.get? a = some o → h'.get? a = some o) : SetT w h' a L := by
  obtain ⟨nd, o, es, ep, t, ho, r⟩ := R
  exact ⟨nd, o, es, ep, t, k o ho, r⟩
theorem txE_is {e : Int × Value} (h : TxE w e) (k : Str) : (strKind P w).is k e.2 = true ↔ txtOf e = k := by
  obtain ⟨x, tk, e2, _⟩ := h
  unfold txtOf
  rw [e2]
  show ((x == k) = true) ↔ x = k
  exact beq_iff_eq
theorem txE_elems {l : List (Int × Value)} (g : ∀ e ∈ l, TxE w e) : ElemsOf (strKind P w) l := fun e he => by
  obtain ⟨x, tk, e2, e1⟩ := g e he
  exact ⟨⟨x, by rw [e2]; exact strKind_is P w x tk, e1⟩, by rw [e2] <;> rfl⟩
/-- the entries and the table are stored, and laid anew where it is too full -/
theorem storeT {g : Bool → Sem Unit} (hg : ∀ (b : Bool) (z : Shared) (Q' : Unit → Shared → Prop), Q' () z → wpAny (model P w) A (g b) Q' E z) {o : Obj} {es : Array (Int × Value)} {ep : Nat} {t : SetTable} (ho : s.heap.get? a = some o) (hex : o.ExactSet)
    (hd : o.data = .set es ep t) {es1 : Array (Int × Value)} {t1 : SetTable} (nd : L.Nodup) (c1 : ∀ e ∈ es1.toList, TxE w e) (c2 : (es1.toList.map txtOf).Perm L) (c3 : es1.size < scanBound) (c4 : t1.fits es1.size = true) (c5 : Ris t1.place.toList)
    (c6 : w.params.followText "set-order" = true ∨ t1.led = true) {was : Bool} {R : Option Bool → Shared → Prop} (fin : ∀ h', Heap.SameBut a s.heap h' → SetT w h' a L → R (some true) { s with heap := h' }) :
    wpAny (model P w) A (do
      storeSet a es1 t1
      if (!was && t1.tooFull) = true then do
        g (relayAll t1 es1 (SetTable.grown es1.size)).2.2
        storeSet a (relayAll t1 es1 (SetTable.grown es1.size)).1 (relayAll t1 es1 (SetTable.grown es1.size)).2.1
        pure (some true)
      else pure (some true)) R E s := by
  apply wpAny_bind (wpAny_storeSet_of ho hd _ (fits_of_scanBound c3))
  have o1 := L2.store_at (es' := es1) (t' := t1) ho hd
  have b1 := Heap.SameBut.update s.heap a (Obj.putSet es1 t1)
  by_cases full : (!was && t1.tooFull) = true
  · rw [if_pos full]
    have d1 := relayAll_perm t1 es1 (SetTable.grown es1.size)
    have d2 := relayAll_fits t1 es1 (SetTable.grown es1.size)
    have d3 := (relayAll_ris t1 es1 (SetTable.grown es1.size))
    have d4 := (relayAll_led t1 es1 (SetTable.grown es1.size))
    generalize relayAll t1 es1 (SetTable.grown es1.size) = Z at d1 d2 d3 d4 ⊢
    obtain ⟨es2, t2, gave⟩ := Z
    dsimp only at d1 d2 d3 d4 ⊢
    have sz : es2.size = es1.size := by
      have := d1.length_eq
      simpa using this
    apply wpAny_bind (hg _ _ _ _)
    apply wpAny_bind (wpAny_storeSet_of o1 rfl _ (fits_of_scanBound (by rw [sz]; exact c3)))
    have o2 := L2.store_at (es' := es2) (t' := t2) o1 rfl
    exact wpAny_pure (fin _ (b1.trans (Heap.SameBut.update _ a _)) ⟨nd, _, es2, _, t2, o2, hex, rfl, fun e he => c1 e (d1.mem_iff.mp he), (d1.map txtOf).trans c2, by rw [sz]; exact c3, d2, d3, c6.imp id fun z => by rw [d4]; exact z⟩)
  · rw [if_neg full]
    exact wpAny_pure (fin _ b1 ⟨nd, _, es1, _, t1, o1, hex, rfl, c1, c2, c3, c4, c5, c6⟩)
theorem addT {x : Str} {tk : Tok} {Q : Bool → Shared → Prop} (R : SetT w s.heap a L) (room : L.length + 1 < scanBound) (hQ : ∀ b h', Heap.SameBut a s.heap h' → SetT w h' a (if x ∈ L then L else x :: L) → Q b { s with heap := h' }) :
    wpAny (model P w) A (setAddHashed a (.str x tk) ((strKind P w).hash x)) Q E s := by
  obtain ⟨nd, o, es, ep, t, ho, hex, hd, c1, c2, c3, c4, c5, c6⟩ := R
  have isx : (strKind P w).is x (.str x tk) = true := strKind_is P w x tk
  have sc : (Value.str x tk).scannable = true := rfl
  have el : ElemsOf (strKind P w) es.toList := txE_elems c1
  have lsz : es.size = L.length := by
    have := c2.length_eq
    simpa using this
  unfold setAddHashed setAddHashedIn
  refine wpAny_holding (wpAny_bind (wpAny_setState_of ho hd c4 ?_))
  dsimp only
  rw [byScan_of sc c3 el, if_pos rfl]
  unfold setAddByScan
  refine wpAny_bind (wpAny_bind (wpAny_rule (wpAny_bind (wpAny_setScan_of isx ho hd c4 el ?_))))
  have memL : x ∈ L ↔ ∃ e ∈ es.toList, (strKind P w).is x e.2 = true := by
    rw [← c2.mem_iff, List.mem_map]
    exact ⟨fun ⟨e, he, q⟩ => ⟨e, he, (txE_is (c1 e he) x).mpr q⟩, fun ⟨e, he, q⟩ => ⟨e, he, (txE_is (c1 e he) x).mp q⟩⟩
  cases hf : List.findIdx? (fun e => (strKind P w).is x e.2) es.toList with
  | some j =>
    dsimp only
    obtain ⟨hj, pj, _⟩ := List.findIdx?_eq_some_iff_getElem.mp hf
    have xL : x ∈ L := memL.mpr ⟨_, List.getElem_mem hj, pj⟩
    refine wpAny_pure (wpAny_pure (hQ _ s.heap (Heap.SameBut.refl a s.heap) ?_))
    rw [if_pos xL]
    exact ⟨nd, o, es, ep, t, ho, hex, hd, c1, c2, c3, c4, c5, c6⟩
  | none =>
    dsimp only
    have xL : x ∉ L := fun z => by
      obtain ⟨e, he, q⟩ := memL.mp z
      rw [List.findIdx?_eq_none_iff.mp hf e he] at q
      cases q
    have d1 := layNew_perm t es ((strKind P w).hash x) (.str x tk)
    have d2 := layNew_fits t es ((strKind P w).hash x) (.str x tk)
    have d3 := layNew_ris t es ((strKind P w).hash x) (.str x tk) c5
    have d4 := layNew_led t es ((strKind P w).hash x) (.str x tk)
    generalize layNew t es ((strKind P w).hash x) (.str x tk) = Z at d1 d2 d3 d4 ⊢
    obtain ⟨es1, t1, was, gave⟩ := Z
    dsimp only at d1 d2 d3 d4 ⊢
    rw [Array.toList_push] at d1
    have pc : es1.toList.Perm (((strKind P w).hash x, Value.str x tk) :: es.toList) := d1.trans (List.perm_append_singleton _ _)
    have f1 : ∀ e ∈ es1.toList, TxE w e := fun e he => by
      rcases List.mem_cons.mp (pc.mem_iff.mp he) with z | z
      · rw [z]
        exact ⟨x, tk, rfl, rfl⟩
      · exact c1 e z
    have f2 : (es1.toList.map txtOf).Perm (x :: L) := (pc.map txtOf).trans (c2.cons x)
    have sz1 : es1.size = L.length + 1 := by
      have := f2.length_eq
      simpa using this
    have nd1 : (x :: L).Nodup := List.nodup_cons.mpr ⟨xL, nd⟩
    have c61 : w.params.followText "set-order" = true ∨ t1.led = true := c6.imp id fun z => by rw [d4]; exact z
    have fin : ∀ h', Heap.SameBut a s.heap h' → SetT w h' a (x :: L) → Q true { s with heap := h' } := fun h' sb r => hQ _ h' sb (by rw [if_neg xL]; exact r)
    have gw : ∀ (b : Bool) {z : Shared} {Q' : Unit → Shared → Prop}, Q' () z → wpAny (model P w) A (match b with | true => rule "set.scan.the-table-gave-way" | false => pure ()) Q' E z := fun b z Q' q => by
      cases b with
      | true => exact wpAny_rule q
      | false => exact wpAny_pure q
    refine wpAny_bind (gw _ ?_)
    split
    · rw [hashByValue_scannable 8 sc]
      refine wpAny_bind (wpAny_pure ?_)
      refine storeT (fun b z Q' q => gw b q) ho hex hd nd1 f1 f2 (by rw [sz1]; exact room) ?_ ?_ ?_ ?_
      · first | (split <;> first | exact d2 | exact SetTable.fits_plain_off d2) | exact d2
      · first | (split <;> exact d3) | exact d3
      · first | (split <;> exact c61) | exact c61
      · exact fun h' sb r => wpAny_pure (fin h' sb r)
    · refine wpAny_bind (wpAny_pure ?_)
      rw [if_pos rfl]
      exact storeT (fun b z Q' q => gw b q) ho hex hd nd1 f1 f2 (by rw [sz1]; exact room) d2 d3 c61 fun h' sb r => wpAny_pure (fin h' sb r)
end
end Kx
namespace Kx
open PySem PySem.Spec PyProof.Rows L2
section
variable {P : Program} {w : World} {A : Around} {E : Value → Shared → Prop} {s : Shared} {a : Addr} {L : List Str}
/-- the loop of set.update over texts -/
theorem loopT {I : Addr} {fp wr : List Addr} {G : Array GenState → Array GenState → Prop} {n : Nat} {Pv : Nat → Value → Prop} {St : Nat → Shared → Prop} {R : Result → Shared → Prop} (W : WalksS P w A.in1 I fp wr G n Pv St) (S : Addr) (nS : S ∉ fp) (xs : List Str)
    (hn : n = xs.length) (few : xs.length < 4000) (val : ∀ i v, Pv i v → ∃ x t, xs[i]? = some x ∧ v = .str x t) (g0 : Heap) (n0 : g0.get? S = none) (w0 : ∀ b, b ∈ wr → g0.get? b = none) :
    ∀ (m i : Nat) (s : Shared), n - i = m → i ≤ n → St i s → (∀ b o, g0.get? b = some o → s.heap.get? b = some o) → (∃ L, SetT w s.heap S L ∧ L.length ≤ i ∧ ∀ z, z ∈ L ↔ z ∈ xs.take i) →
      (∀ s' L, Moved (S :: wr) G s s' → SetT w s'.heap S L → (∀ z, z ∈ L ↔ z ∈ xs) → (∀ b o, g0.get? b = some o → s'.heap.get? b = some o) → R (.ok (.ret .none)) s') →
      codeAny (model P w) A (.builtin "set.update.loop" ⟨[.ref S, .ref I], []⟩) R s := by
  have sw : S ∉ wr := fun h => nS (W.sub _ h)
  have up : ∀ b, b ∈ wr → b ∈ S :: wr := fun b hb => List.mem_cons_of_mem _ hb
  have kp : ∀ {z z' : Shared}, Moved wr G z z' → (∀ b o, g0.get? b = some o → z.heap.get? b = some o) → ∀ b o, g0.get? b = some o → z'.heap.get? b = some o := fun hm h b o e =>
    hm.heap b o (fun hb => by rw [w0 b hb] at e; cases e) (h b o e)
  intro m
  induction m with
  | zero =>
    rintro i s hm hi hst hkp ⟨L, hL, lL, mL⟩ hR
    obtain rfl : i = n := by omega
    apply codeAny_builtin F.entry_set_update_loop
    rw [Around.under_plainId F.plain_set_update_loop _]
    apply wpAny_bind (m := pyNext (.ref I)) (W.done s _ _ hst _)
    intro z mv
    rw [hn, List.take_length] at mL
    exact wpAny_pure (hR z L (mv.mono up) (hL.kept fun o e => mv.heap S o sw e) mL (kp mv hkp))
  | succ m ih =>
    rintro i s hm hi hst hkp ⟨L, hL, lL, mL⟩ hR
    have lt : i < n := by omega
    apply codeAny_builtin F.entry_set_update_loop
    rw [Around.under_plainId F.plain_set_update_loop _]
    apply wpAny_bind (m := pyNext (.ref I)) (W.item i s _ _ lt hst _)
    intro v z hP hst' mv
    obtain ⟨x, t, hx, rfl⟩ := val i v hP
    have k2 := kp mv hkp
    have hL' := hL.kept fun o e => mv.heap S o sw e
    apply wpAny_bind (m := holding [Value.str x t] (setAdd S (.str x t))) (wpAny_holding _)
    unfold setAdd
    apply wpAny_holding
    apply wpAny_bind ((PySem.strKind P w).pyHash (k := x) (strKind_is _ _ _ _) _)
    apply addT (s := { z with toks := z.toks + 1 }) hL' (by unfold scanBound; omega)
    intro b h' sb hL2
    have k3 : ∀ b o, g0.get? b = some o → h'.get? b = some o := fun b o e => (sb.2 b (fun z => by rw [z, n0] at e; cases e)).trans (k2 b o e)
    have fr := W.frame (i + 1) z h' (z.toks + 1) hst' (Nat.le_add_right _ _) fun b hb o e => by
      rw [sb.2 b (fun h : b = S => nS (by rw [← h]; exact hb))]
      exact e
    have m2 : ∀ y, y ∈ (if x ∈ L then L else x :: L) ↔ y ∈ xs.take (i + 1) := fun y => by
      rw [take_one hx, List.mem_append, ← mL, List.mem_singleton]
      split
      · rename_i h
        exact ⟨.inl, fun q => q.elim id fun e => by rw [e]; exact h⟩
      · rw [List.mem_cons]
        exact Or.comm
    have l2 : (if x ∈ L then L else x :: L).length ≤ i + 1 := by
      split
      · omega
      · rw [List.length_cons]
        omega
    apply wpAny_pure
    refine ⟨plainId_quiet F.plain_set_update_loop _, ih (i + 1) _ (by omega) lt fr k3 ⟨_, hL2, l2, m2⟩ fun z2 L3 mv2 hL3 m3 k4 => hR z2 L3 (Moved.trans W.gtrans ((mv.mono up).then_heap (Nat.le_add_right _ _) fun b o hb e => ?_) mv2) hL3 m3 k4⟩
    rw [sb.2 b fun h => hb (by rw [h]; exact List.mem_cons_self)]
    exact e
theorem call_setT {l : Addr} {its : Array Value} (xs : List Str) {Q : Value → Shared → Prop} (hh : A.handled = none) (hl : s.heap.IsList l its) (hi : PyProof.Rows.StrsAre its.toList xs) (few : xs.length < 4000)
    (q : ∀ (h' : Heap) (tk : Nat) L, SetT w h' s.heap.objs.size L → (∀ z, z ∈ L ↔ z ∈ xs) → (∀ b o, s.heap.get? b = some o → h'.get? b = some o) → Q (.ref s.heap.objs.size) { s with heap := h', toks := tk }) :
    wpAny (model P w) A (call (.type "set") [.ref l]) Q E s := by
  have isz : its.size = xs.length := by rw [← StrsAre.len_eq hi, Array.length_toList]
  refine call_set_gen (fun h' => ∃ L, SetT w h' s.heap.objs.size L ∧ ∀ z, z ∈ L ↔ z ∈ xs) hl ⟨?_⟩ ⟨fun h' tk ⟨L, hL, mL⟩ k => q h' tk L hL mL k⟩
  intro led R hled hR
  have n1 : (s.heap.push (set0 led)).objs.size = s.heap.objs.size + 1 := Heap.size_push ..
  have g1 : (s.heap.push (set0 led)).get? s.heap.objs.size = some (set0 led) := Heap.get?_push_size _ rfl
  have hl1 := hl.push (set0 led)
  have ls : l < s.heap.objs.size := let ⟨o, ho, _⟩ := hl; Heap.lt_size ho
  have nI : l ≠ (s.heap.push (set0 led)).objs.size := by
    rw [n1]
    exact Nat.ne_of_lt (Nat.lt_succ_of_lt ls)
  have val : ∀ (i : Nat) (v : Value), its[i]? = some v → ∃ x t, xs[i]? = some x ∧ v = .str x t := fun i v hv => by
    rw [← Array.getElem?_toList] at hv
    have lt : i < xs.length := by
      rw [← isz, ← Array.length_toList]
      exact (List.getElem?_eq_some_iff.mp hv).1
    obtain ⟨t, e⟩ := SS.strs_at hi i v hv
    exact ⟨xs[i], t, List.getElem?_eq_getElem lt, by rw [e]; simp [List.getD, List.getElem?_eq_getElem lt]⟩
  have start : SetT w ((s.heap.push (set0 led)).push { cls := .type "list_iterator", data := .fields #[.ref l, .int 0 0] }) s.heap.objs.size [] :=
    ⟨List.nodup_nil, set0 led, #[], 0, .fresh 0 0 led, Heap.get?_push_of_some _ g1, ⟨rfl, rfl, rfl⟩, rfl, fun e he => (nomatch he), List.Perm.refl _, (by decide : 0 < scanBound), rfl, List.Pairwise.nil, hled⟩
  refine loopT ((Walks.list (by simp [hh]) _ l nI its).toS) s.heap.objs.size ?a xs isz few val s.heap (no_above (Nat.le_refl _)) ?b (its.size - 0) 0 _ (by omega) (Nat.zero_le _)
    ⟨⟨_, Heap.get?_push_size _ rfl, rfl, rfl⟩, (hl1.push _)⟩ (fun b o e => Heap.get?_push_of_some _ (Heap.get?_push_of_some _ e)) ⟨[], start, Nat.le_refl _, fun z => by simp⟩ ?c
  case a =>
    rw [n1]
    simp only [List.mem_cons, List.not_mem_nil, or_false, not_or]
    exact ⟨Nat.ne_of_lt (Nat.lt_succ_self _), Nat.ne_of_gt ls⟩
  case b =>
    intro b hb
    rw [List.mem_singleton.mp hb, n1]
    exact no_above (Nat.le_succ _)
  case c =>
    intro z L mv hL mL k
    obtain ⟨h', g2, d', tk', os'⟩ := z
    obtain rfl : g2 = s.gens := mv.gens
    obtain rfl : d' = s.drawn := mv.drawn
    obtain rfl : os' = s.os := mv.os
    exact hR h' tk' ⟨L, hL, mL⟩ k
/-- sorted of such a set -/
theorem sortedT {Q : Value → Shared → Prop} (R : SetT w s.heap a L) (hh : A.handled = none)
    (hQ : ∀ s' p (out : Array Value) (c : Nat) (ys : List Str), (∀ b o, s.heap.get? b = some o → s'.heap.get? b = some o) → s'.gens = s.gens → s'.os = s.os → s.heap.objs.size ≤ p → s'.heap.get? p = some (seqObj "list" out c) → StrsAre out.toList ys → ys.Perm L → Q (.ref p) s') :
    wpAny (model P w) A (call (.builtin "sorted") [.ref a]) Q E s := by
  obtain ⟨nd, o, es, ep, t, ho, hex, hd, c1, c2, c3, c4, c5, c6⟩ := R
  refine Calls.call_function_entry kind_sorted plain_sorted entry_sorted (args_sorted1 _) ?_
  unfold Builtin.«sorted»
  refine wpAny_bind (m := checkCount "sorted" 1 1 _) (wpAny_pure (wpAny_bind (collect_set (A := A.in1) hh ⟨o, ho, hex.1, hd⟩ c4 c3 c5 c6 fun s1 vs k1 hz g1 o1 pm => ?_)))
  have lv : vs.length = es.size := by rw [pm.length_eq, List.length_map, Array.length_toList]
  have few : vs.length ≤ sizeLine := by rw [lv]; exact fits_of_scanBound c3
  have all : ∀ v, v ∈ vs → ∃ x t, v = Value.str x t := fun v hv => by
    obtain ⟨e, he, q⟩ := List.mem_map.mp (pm.mem_iff.mp hv)
    obtain ⟨x, tk, e2, _⟩ := c1 e he
    exact ⟨x, tk, by rw [← q]; exact e2⟩
  have hS := strsAre_map vs all
  have pS : (vs.map strOf).Perm L := by
    refine (pm.map strOf).trans ?_
    rw [List.map_map]
    have : es.toList.map (strOf ∘ fun e => e.2) = es.toList.map txtOf := List.map_congr_left fun e he => by
      obtain ⟨x, tk, e2, _⟩ := c1 e he
      show strOf e.2 = txtOf e
      unfold txtOf
      rw [e2]
      rfl
    rw [this]
    exact c2
  refine wpAny_bind (wpAny_newList ?_ few)
  have hoL : (s1.heap.push (seqObj "list" vs.toArray 0)).get? s1.heap.objs.size = some (seqObj "list" vs.toArray 0) := Heap.get?_push_size _ rfl
  refine wpAny_bind (wpAny_holding (wpAny_call_entry slot_list_sort ⟨_, hoL, rfl⟩ entry_list_sort (list_sort_treeKSt strKind_oneLt hoL hS.keysOf (fun v1 v2 rest e => keyKind_strs (by rw [← e]; exact hS)) few fun st' hp hs _ => ⟨_, rfl, ?_⟩) (args_list_sort _)))
  obtain ⟨ys, a1, a2, _⟩ := sorted_out_str hS hp hs
  obtain ⟨c, hc⟩ := sortedHeap_at (vs := vs) (out := (arrOf st').map (·.2)) hoL
  refine wpAny_pure ⟨_, rfl, hQ _ s1.heap.objs.size _ c ys (fun b u e => ?_) g1 o1 hz hc a1 (a2.trans pS)⟩
  have q := k1 b u e
  have lt := Heap.lt_size q
  show (sortedHeap (s1.heap.push (seqObj "list" vs.toArray 0)) s1.heap.objs.size vs ((arrOf st').map (·.2))).get? b = some u
  rw [sortedHeap_old (Nat.ne_of_lt lt) (by rw [Heap.size_push]; exact Nat.lt_succ_of_lt lt)]
  exact Heap.get?_push_of_some _ q
end
section
variable {X : Cx}
theorem strsAre_vals : ∀ {us : List Value} {xs : List Str}, StrsAre us xs → Vals (xs.map V.str) us
  | _, _, .nil => .nil
  | _, _, .cons x tk t => .cons ⟨tk, rfl⟩ (strsAre_vals t)
/-- sorted(set(xs)), xs a list of texts: each text once -/
def tSortSet (K : PySem.W.Frag) (ta : TE) : TE := fun σ H Q => ta σ H fun x H1 => ∃ (l : Addr) (xs : List Str), x = V.ref l ∧ SqL K H1 l (xs.map V.str) ∧ xs.length < 4000 ∧
  ∀ ys : List Str, ys.Nodup → (∀ z, z ∈ ys ↔ z ∈ xs) → ∀ p, H1 p = none → Q (.ref p) (upd H1 p (.lst (ys.map V.str)))
theorem pe_sortSet {a : Expr} {ta : TE} {p p2 q pos : Pos} (hc : X.calm = true) (hg : Gl X "sorted") (hm : X.mg "sorted" = none) (hg2 : Gl X "set") (hm2 : X.mg "set" = none) (ha : PE X a ta)
    (na : starEach [a] X.env = (false, eval a X.env) :: starEach [] X.env := by rfl) : PE X (.Call (.Name "sorted" p) [.Call (.Name "set" p2) [a] [] q] [] pos) (tSortSet X.K ta) := by
  refine ⟨fun pins s σ H Q I h => ?_⟩
  apply Call_ (ld_blt I hg hm PyProof.Rows.boot_sorted _)
  apply PyProof.Rows.callWith_builtin1 (PyProof.Rows.args_cons _ rfl) rfl rfl
  apply Call_ (ld_blt I hg2 hm2 PyProof.Rows.boot_set _)
  apply PyProof.Rows.callWith_type1 (PyProof.Rows.args_cons (thn (ha.run pins s σ H _ I h) _) na) na rfl
  rintro v s1 ⟨x, H1, I1, r1, l, xs, rfl, hl, few, q1⟩
  apply PyProof.Rows.args_nil
  cases r1
  obtain ⟨its, rv, pl, hz⟩ := I1.list hl
  apply call_setT xs (I1.ok.hd hc) pl.isList (by rw [List.toList_toArray]; exact sAre_of rv) few
  intro h' tk L R mL k
  apply PyProof.Rows.args_nil
  have I2 : Inv X pins σ H1 { s1 with heap := h', toks := tk } := I1.kept fun b o e => k b o e
  have lL : L.length ≤ xs.length := nodup_le xs L R.nd fun z hz => (mL z).mp hz
  apply sortedT (s := { s1 with heap := h', toks := tk }) R (I1.ok.hd hc)
  intro s' p out c ys k2 g o hp hg hi pm
  have ln : (ys.map V.str).length ≤ sizeLine := by
    rw [List.length_map, pm.length_eq]
    exact Nat.le_trans (show L.length ≤ 4000 by omega) (by decide)
  have hn : H1 p = none := I2.hok.fresh hp
  have J : Inv X pins σ (upd H1 p (.lst (ys.map V.str))) { ({ s1 with heap := h', toks := tk } : Shared) with heap := s'.heap, gens := s'.gens, drawn := s'.drawn, toks := s'.toks } :=
    I2.call (ch := []) (Un.laid k2 hp hn) (I2.hok.laid k2 hp ⟨ln, out.toList, c, strsAre_vals hi, hg⟩) (by rw [g]; exact I2.bare) (fun _ z => nomatch z)
  have e : s' = { ({ s1 with heap := h', toks := tk } : Shared) with heap := s'.heap, gens := s'.gens, drawn := s'.drawn, toks := s'.toks } := by
    cases s'
    cases s1
    cases o
    rfl
  rw [e]
  exact ⟨.ref p, _, J, rfl, q1 ys (pm.nodup_iff.mpr R.nd) (fun z => by rw [pm.mem_iff, mL]) p hn⟩
end
end Kx
/-! How many different ones. -/
namespace K12
open PySem PySem.Spec PyProof.Rows L2 Kx
section
variable {α β : Type} [DecidableEq α] [DecidableEq β]
/-- the different ones -/
def und : List α → List α
  | [] => []
  | x :: l => if x ∈ l then und l else x :: und l
theorem mem_und : ∀ (l : List α) (x : α), x ∈ und l ↔ x ∈ l
  | [], x => by simp [und]
  | y :: l, x => by
    unfold und
    have ih := mem_und l x
    split
    · rename_i h
      rw [ih, List.mem_cons]
      constructor
      · exact .inr
      · rintro (rfl | h2)
        · exact h
        · exact h2
    · rw [List.mem_cons, List.mem_cons, ih]
theorem und_nodup : ∀ l : List α, (und l).Nodup
  | [] => List.nodup_nil
  | y :: l => by
    unfold und
    split
    · exact und_nodup l
    · rename_i h
      exact List.nodup_cons.mpr ⟨fun e => h ((mem_und l y).mp e), und_nodup l⟩
theorem und_len : ∀ l : List α, (und l).length = Kx.cnt l
  | [] => rfl
  | y :: l => by
    unfold und Kx.cnt
    split
    · exact und_len l
    · rw [List.length_cons, und_len l]
theorem cnt_inj {f : α → β} (hf : ∀ a b, f a = f b → a = b) : ∀ l : List α, Kx.cnt (l.map f) = Kx.cnt l
  | [] => rfl
  | y :: l => by
    have e : f y ∈ l.map f ↔ y ∈ l := by
      rw [List.mem_map]
      constructor
      · rintro ⟨a, ha, h⟩
        rw [← hf _ _ h]
        exact ha
      · exact fun h => ⟨y, h, rfl⟩
    rw [List.map_cons]
    unfold Kx.cnt
    simp only [e]
    rw [cnt_inj hf l]
end
theorem cnt_fst_le : ∀ l : List NK, Kx.cnt (l.map Prod.fst) ≤ Kx.cnt l
  | [] => Nat.le_refl _
  | y :: l => by
    have ih := cnt_fst_le l
    rw [List.map_cons]
    unfold Kx.cnt
    by_cases h : y ∈ l
    · have : y.1 ∈ l.map Prod.fst := List.mem_map.mpr ⟨y, h, rfl⟩
      rw [if_pos h, if_pos this]
      exact ih
    · rw [if_neg h]
      split <;> omega
theorem cnt_func : ∀ l : List NK, Kx.cnt l = Kx.cnt (l.map Prod.fst) ↔ Func l
  | [] => by simp [Kx.cnt, Func]
  | y :: l => by
    have ih := cnt_func l
    have le := cnt_fst_le l
    rw [List.map_cons]
    unfold Kx.cnt
    by_cases h : y ∈ l
    · have h2 : y.1 ∈ l.map Prod.fst := List.mem_map.mpr ⟨y, h, rfl⟩
      rw [if_pos h, if_pos h2, ih]
      refine Func.congr fun p => ?_
      rw [List.mem_cons]
      constructor
      · exact .inr
      · rintro (rfl | h3)
        · exact h
        · exact h3
    · rw [if_neg h]
      by_cases h2 : y.1 ∈ l.map Prod.fst
      · rw [if_pos h2]
        constructor
        · intro e
          omega
        · intro f
          exfalso
          obtain ⟨z, hz, e⟩ := List.mem_map.mp h2
          have := f y List.mem_cons_self z (List.mem_cons_of_mem _ hz) e.symm
          refine h ?_
          have : y = z := Prod.ext e.symm this
          rw [this]
          exact hz
      · rw [if_neg h2]
        have e1 : Kx.cnt l + 1 = Kx.cnt (l.map Prod.fst) + 1 ↔ Kx.cnt l = Kx.cnt (l.map Prod.fst) := by omega
        rw [e1, ih]
        constructor
        · intro f p hp q hq e
          rcases List.mem_cons.mp hp with rfl | hp
          · rcases List.mem_cons.mp hq with rfl | hq
            · rfl
            · exact absurd (List.mem_map.mpr ⟨q, hq, e.symm⟩) h2
          · rcases List.mem_cons.mp hq with hq | hq
            · rw [hq] at e
              exact absurd (List.mem_map.mpr ⟨p, hp, e⟩) h2
            · exact f p hp q hq e
        · exact fun f p hp q hq e => f p (List.mem_cons_of_mem _ hp) q (List.mem_cons_of_mem _ hq) e
/-- a name with its places, as a key -/
def rowK (p : NK) : List Key := [.inr p.1, .inl ((p.2 + 1 : Nat) : Int)]
theorem rowK_inj (p q : NK) (h : rowK p = rowK q) : p = q := by
  unfold rowK at h
  injection h with h1 h2
  injection h2 with h2 _
  injection h1 with h1
  injection h2 with h2
  exact Prod.ext h1 (Nat.succ.inj (Int.ofNat.inj h2))
/-- len of a sequence -/
abbrev rLenS (K : PySem.W.Frag) : List V → Hp → VK → Prop := fun xs H Q => ∃ p ys, xs = [.ref p] ∧ (SqL K H p ys ∨ SqT K H p ys) ∧ Q (.int ys.length) H
end K12
/-! fact_renamed_by. -/
namespace K12
open PySem PySem.Spec PyProof.Rows L2 Kx
theorem nodup_map {α β : Type} {f : α → β} : ∀ {l : List α}, l.Nodup → ((l.map f).Nodup ↔ ∀ x, x ∈ l → ∀ y, y ∈ l → f x = f y → x = y)
  | [], _ => by simp
  | a :: l, nd => by
    rw [List.nodup_cons] at nd
    rw [List.map_cons, List.nodup_cons, nodup_map nd.2, List.mem_map]
    constructor
    · rintro ⟨h1, h2⟩ x hx y hy e
      rcases List.mem_cons.mp hx with hx | hx
      · rcases List.mem_cons.mp hy with hy | hy
        · rw [hx, hy]
        · exact absurd ⟨y, hy, by rw [← e, hx]⟩ h1
      · rcases List.mem_cons.mp hy with hy | hy
        · exact absurd ⟨x, hx, by rw [e, hy]⟩ h1
        · exact h2 x hx y hy e
    · intro h
      refine ⟨fun ⟨y, hy, e⟩ => nd.1 ?_, fun x hx y hy e => h x (List.mem_cons_of_mem _ hx) y (List.mem_cons_of_mem _ hy) e⟩
      rw [← h y (List.mem_cons_of_mem _ hy) a List.mem_cons_self e]
      exact hy
section
variable {P : Program} {w : World} {K : PySem.W.Frag} {mg : Str → Option Value} {base : Heap}
/-- the names of terms -/
def namesL (ds : List PyData) : List Str := (rowsAll ds).map Prod.fst
def ApL (m : List (Str × Str)) (ns : List Str) : Prop := ∀ x, x ∈ ns → ∀ y, y ∈ ns → nmOf m x = nmOf m y → x = y
theorem apartL {m : List (Str × Str)} {ds : List PyData} {ms : List NK} (nd : (ms.map Prod.fst).Nodup) (mem : ∀ r, r ∈ ms ↔ r ∈ rowsAll ds) : Apart m (ms.map Prod.fst) ↔ ApL m (namesL ds) := by
  have e : ∀ x, x ∈ ms.map Prod.fst ↔ x ∈ namesL ds := fun x => by
    rw [namesL, List.mem_map, List.mem_map]
    exact exists_congr fun r => by rw [mem r]
  unfold Apart ApL
  rw [nodup_map nd]
  constructor
  · exact fun h x hx y hy => h x ((e x).mpr hx) y ((e y).mpr hy)
  · exact fun h x hx y hy => h x ((e x).mp hx) y ((e y).mp hy)
def renC (f : Str → Str) : PyData → PyData
  | .tuple [a, b] => .tuple [renD f a, renD f b]
  | d => d
def spFr (P : Program) (w : World) (K : PySem.W.Frag) (CF CN CO : Addr) : Sp := fun vs H Q E => ∃ (x n : V) (d : PyData), vs = [x, n] ∧ Fz K H x d ∧
  ((factD d = false ∧ ∀ H', Same H H' → E (.ref CF) none H') ∨
    (factD d = true ∧ szD d ≤ 1000 ∧ BadNm P w K H n ∧ ∀ H', Same H H' → E (.ref CN) none H') ∨
    (factD d = true ∧ szD d ≤ 1000 ∧ ∃ (a : Addr) (m : List (Str × Str)), n = .ref a ∧ H a = some (.dK (strD m)) ∧ (∀ x y, (x, y) ∈ m → isNm x = true ∧ isNm y = true) ∧ (m.map Prod.fst).Nodup ∧ m.length ≤ 1000 ∧
      ((¬ ApL m (namesL (sidesD (prsD d))) ∧ ∀ H', Same H H' → E (.ref CO) none H') ∨
        (ApL m (namesL (sidesD (prsD d))) ∧ couplesD ((prsD d).map (renC (nmOf m))) = true ∧ szAll ((prsD d).map (renC (nmOf m))) ≤ 10000 ∧ (∀ a, a ∈ sidesD (prsD d) → (preD a).length ≤ 100000) ∧ ∀ y r H', Same H H' → Dx K H' y r → (∀ ps c, d = .tuple [.tuple ps, c] → FoD (ps.map (renC (nmOf m))) (renC (nmOf m) c) r) → Q y H'))))
theorem ok_fr (T : Tx K mg) : FnOk P w K mg base (L2.CX P w) 7 T.afact_renamed_by T.dfact_renamed_by ["fact", "names"] (spFr P w K T.CInvalidFact T.CInvalidName T.CInvalidOperation) := by
  have nd := sc_fact_renamed_by.nd
  have GF := ok_ckf (P := P) (w := w) (base := base) T
  have GR := ok_rn (P := P) (w := w) (base := base) T
  have GI := ok_pi (P := P) (w := w) (base := base) T
  have GS := ok_sides (P := P) (w := w) (base := base) T
  have GJ := ok_jointL (P := P) (w := w) (base := base) T
  have GU := ok_with (P := P) (w := w) (base := base) T
  have GO := ok_fo (P := P) (w := w) (base := base) T
  refine T.ffact_renamed_by.okX sc_fact_renamed_by (fun vs H Q E h => ?_) (fun cdv A outer s H vs Q E hr h => ?_)
  · obtain ⟨x, n, d, rfl, _⟩ := h
    rfl
  obtain ⟨x, n, d, rfl, hx, h⟩ := h
  refine ⟨_, (pss_cons (ps_expr (pe_call GF (hr.mono (by omega)) (by rfl) T.gcheck_fact T.fcheck_fact.kp T.ncheck_fact .nil (passes_call (takes_of rfl rfl rfl rfl) (fun _ _ _ _ h => h)) (pa_cons (pv 0) pa_nil)))
      (pss_cons (ps_expr (pe_call GR (hr.mono (by omega)) (by rfl) T.gcheck_renaming T.fcheck_renaming.kp T.ncheck_renaming .nil (passes_call (takes_of rfl rfl rfl rfl) (fun _ _ _ _ h => h)) (pa_cons (pe_call GJ (hr.mono (by omega)) (by rfl) T.gjoint_places T.fjoint_places.kp T.njoint_places .nil pass0 (pa_cons (pe_call GS (hr.mono (by omega)) (by rfl) T.gsides_of T.fsides_of.kp T.nsides_of .nil pass0 (pa_cons (pe_call GI (hr.mono (by omega)) (by rfl) T.gpairs_in T.fpairs_in.kp T.npairs_in .nil pass0 (pa_cons (pv 0) pa_nil)) pa_nil)) pa_nil)) (pa_cons (pv 1) pa_nil))))
      (pss_cons (ps_setLc (i := 2) (own := [("one", 4), ("other", 5)]) (g := (gTup K 2 (gCons (gName 4) (gCons (gName 5) gNil)))) (tt := tYes) (by rfl) nd rfl rfl (sw_true rfl rfl rfl (by decide +kernel)) (pi_list (pe_call GI (hr.mono (by omega)) (by rfl) T.gpairs_in T.fpairs_in.kp T.npairs_in .nil pass0 (pa_cons (pv 0) pa_nil))) (blkOk_by (own := [("one", 4), ("other", 5)]) (N := N_fact_renamed_by) (sc := defScope s_fact_renamed_by) (by decide +kernel)) (fun _ _ _ _ _ => pg_tup rfl (pgs_cons (pg_name (i := 4) nd rfl (.inl rfl)) (pgs_cons (pg_name (i := 5) nd rfl (.inl rfl)) pgs_nil))) (fun _ _ _ _ _ => pts_nil) (fun _ _ _ _ _ => (pe_tup (pa_cons (pe_call GU (hr.mono (by omega)) (by rfl) T.gwith_names T.fwith_names.kp T.nwith_names .nil pass0 (pa_cons (pv 4) (pa_cons (pv 1) pa_nil))) (pa_cons (pe_call GU (hr.mono (by omega)) (by rfl) T.gwith_names T.fwith_names.kp T.nwith_names .nil pass0 (pa_cons (pv 5) (pa_cons (pv 1) pa_nil))) pa_nil)))))
      (pss_cons (ps_set (i := 3) nd rfl (.inl rfl) (pe_ifExp (pt_cmpR op_isN (pe_ix ix_tup (pv 0) pe_int (fun _ _ => rfl)) pe_non (nomark _)) pe_non (pe_bm0 PySem.F.plainAttrs_list PySem.F.slot_list_pop PySem.F.type_list_pop mt_pop (pv 2))))
      (pss_one (ps_ret (pe_call GO (hr.mono (by omega)) (by rfl) T.gfact_of T.ffact_of.kp T.nfact_of .nil pass0 (pa_cons (pv 3) (pa_cons (pv 2) pa_nil))))))))), ?_⟩
  cases td : factD d with
  | false =>
    rcases h with ⟨_, q⟩ | ⟨z, _⟩ | ⟨z, _⟩
    · exact ⟨_, rfl, x, d, rfl, hx, noB td, fun _ => q⟩
    · rw [td] at z; cases z
    · rw [td] at z; cases z
  | true =>
  refine ⟨_, rfl, x, d, rfl, hx, fun _ H1 s1 => ?_, fun z => by rw [td] at z; cases z⟩
  obtain ⟨ps, c, rfl, hc⟩ := fact_shape td
  obtain ⟨f1, f2, f3, f4⟩ := fz_parts hx
  obtain ⟨f, t, us, v, rfl, hf, ht, hus, hv⟩ := dx_fact (hx.up s1).dx
  have wr := couples_wr hc f4
  have ep : prsD (.tuple [.tuple ps, c]) = ps ++ endOf c := rfl
  rw [ep] at h
  have cj : (ps ++ endOf c).all coupleD = true ∧ jointD (sidesD (ps ++ endOf c)) = true := by
    simpa [couplesD] using hc
  refine ⟨_, rfl, f, t, us, v, ps, c, rfl, hf, ht, hus, hv, by omega, fun p ys H2 s2 np hp2 dy => ?_⟩
  refine ⟨p, ys, _, rfl, SqL.of hp2, dy, cj.1, by omega, fun p3 ys3 H3 s3 hp3 dy3 => ?_⟩
  refine ⟨p3, ys3, _, rfl, SqL.of hp3, dy3, sides_short _ f3, Nat.le_trans (sides_sz _) (by omega), fun z H4 s4 _ h2 => ?_⟩
  obtain ⟨pm, ms, rfl, npm, hpm, ndm, lms, mem⟩ := h2 cj.2
  have s14 := s1.trans (s2.trans (s3.trans s4))
  have z1000 : szD (.tuple [.tuple ps, c]) ≤ 1000 → ms.length ≤ 1000 := fun hz => by
    have z1 : szAll (endOf c) ≤ szD c := by cases c <;> simp [endOf, szAll, szD]
    have z2 := sides_sz (ps ++ endOf c)
    rw [szAll_append] at z2
    simp only [szD, szAll] at hz
    omega
  have npH : H pm = none := by
    cases e : H pm with
    | none => rfl
    | some o => rw [(s1.trans (s2.trans s3)) _ _ e] at npm; cases npm
  rcases h with ⟨z, _⟩ | ⟨_, hz, bad, q⟩ | ⟨_, hz, a, m, rfl, ha, hm, nm, lm, h⟩
  · rw [td] at z; cases z
  · exact ⟨_, rfl, pm, n, ms, rfl, hpm, z1000 hz, .inl ⟨bad.up s14, fun H5 s5 => q H5 (s14.trans s5)⟩⟩
  have npa : pm ≠ a := fun e => by rw [e, ha] at npH; cases npH
  refine ⟨_, rfl, pm, .ref a, ms, rfl, hpm, z1000 hz, .inr ⟨a, m, rfl, npa, s14 _ _ ha, hm, nm, lm, fun ap H5 s5 => ?_, fun nap H5 s5 => ?_⟩⟩
  · rcases h with ⟨nap, _⟩ | ⟨_, hcs, sz, hp, q⟩
    · exact absurd ((apartL ndm mem).mp ap) nap
    have s15 := s14.trans s5
    have C2 := couples_cns hcs sz
    have tell : ∀ r, FoD (ps.map (renC (nmOf m))) (renC (nmOf m) c) r → ∀ ps2 c2, PyData.tuple [.tuple ps, c] = .tuple [.tuple ps2, c2] → FoD (ps2.map (renC (nmOf m))) (renC (nmOf m) c2) r := fun r h ps2 c2 e => by
      simp only [PyData.tuple.injEq, List.cons.injEq, and_true] at e
      obtain ⟨rfl, rfl⟩ := e
      exact h
    have back : ∀ {b : Addr} {o : HO}, H1 b = some o → H5 b = some o := fun {b o} e => s5 _ _ (s4 _ _ (s3 _ _ (s2 _ _ e)))
    have bS : Same H1 H5 := fun b o e => back e
    refine ⟨_, rfl, f, t, us, v, ps, c, rfl, back hf, back ht, hus.up bS, hv.up bS, by omega, fun p ys H6 s6 np hp6 dy => ?_⟩
    refine ⟨p, rfl, ⟨_, SqL.of hp6⟩, fun D nD => ?_⟩
    have s16 := s15.trans s6
    have ly := dy.length
    refine lc_list (K := K) (a := p) (xs := ys) (fun i G => Same H6 G ∧ ∃ zs, G D = some (.lst zs) ∧ DxAll K G zs (((ps ++ endOf c).take i).map (renC (nmOf m)))) ⟨same_put nD, [], upd_same, .nil⟩ (fun i G _ h => SqL.of (h.1 _ _ hp6)) ?_ ?_
    · rintro i y G hi ⟨sG, zs, eD, dz⟩
      have lti : i < (ps ++ endOf c).length := by rw [← ly]; exact (List.getElem?_eq_some_iff.mp hi).1
      have gd := List.getElem?_eq_getElem lti
      obtain ⟨v2, hv2, dv⟩ := dy.get gd
      rw [hi] at hv2
      cases hv2
      obtain ⟨a1, b1, eab, wa, wb⟩ := wr _ (List.getElem_mem lti)
      have ms : ∀ z, z = a1 ∨ z = b1 → z ∈ sidesD (ps ++ endOf c) := fun z hz => List.mem_flatMap.mpr ⟨_, List.getElem_mem lti, by rw [eab]; rcases hz with rfl | rfl <;> simp [sidesOf]⟩
      have pa := hp a1 (ms a1 (.inl rfl))
      have pb := hp b1 (ms b1 (.inr rfl))
      rw [eab] at dv gd
      obtain ⟨q0, u, v3, rfl, hq0, du, dv3⟩ := dx_couple dv
      have sa := s16.trans sG
      refine ⟨q0, _, rfl, SqT.of (sG _ _ hq0), rfl, _, _, rfl, _, _, rfl, rfl, rfl, (iteT (B := False) ?_ : if true = true then _ else False)⟩
      refine ⟨_, rfl, _, rfl, u, a, a1, m, rfl, du.up sG, .inl (sa _ _ ha), wa.f, pa, fun v5 G5 s5 d5 => ?_⟩
      have sb := sa.trans s5
      refine ⟨_, rfl, _, rfl, v3, a, b1, m, rfl, dv3.up (sG.trans s5), .inl (sb _ _ ha), wb.f, pb, fun v6 G6 s6 d6 => ?_⟩
      refine ⟨by show 2 ≤ sizeLine; decide, fun k nk => ?_⟩
      have s7 := same_put (o := .tup [v5, v6]) nk
      have s57 := s5.trans (s6.trans s7)
      have eD7 := s57 _ _ eD
      have ek : (upd G6 k (.tup [v5, v6])) k = some (.tup [v5, v6]) := upd_same
      have d57 := d5.up (s6.trans s7)
      have d67 := d6.up s7
      generalize upd G6 k (.tup [v5, v6]) = G7 at s57 eD7 ek d57 d67 ⊢
      have tl := Tups.lst (ys := zs ++ [.ref k]) eD7
      have e1 : ((ps ++ endOf c).take (i + 1)).map (renC (nmOf m)) = ((ps ++ endOf c).take i).map (renC (nmOf m)) ++ [.tuple [renD (nmOf m) a1, renD (nmOf m) b1]] := by
        rw [List.take_add_one, gd, List.map_append]
        rfl
      have cl : ∀ z, z ∈ ((ps ++ endOf c).take (i + 1)).map (renC (nmOf m)) → Cpl z := fun z hz => by
        obtain ⟨y, hy, rfl⟩ := List.mem_map.mp hz
        exact C2.c _ (List.mem_map.mpr ⟨y, List.mem_of_mem_take hy, rfl⟩)
      have pu := pure_cpl cl
      have du2 : DxAll K G7 (zs ++ [.ref k]) (((ps ++ endOf c).take (i + 1)).map (renC (nmOf m))) := by
        rw [e1]
        exact DxAll.append (dz.up s57) (.cons (.tup ek (.cons d57 (.cons d67 .nil))) .nil)
      refine ⟨zs, eD7, ?_, fun z oz hz => ?_, zs ++ [.ref k], upd_same, DxAll.ts tl _ _ pu du2⟩
      · rw [dz.length, List.length_map, List.length_take]
        exact small1000 (by omega)
      · rw [upd_ne (ne_of_none hz nD)]
        exact s57 _ _ (sG _ _ hz)
    · rintro G ⟨sG, zs, eD, dz⟩
      rw [ly, List.take_length] at dz
      have sb := s16.trans sG
      have l1 : ((ps ++ endOf c).map (renC (nmOf m))).length ≤ 101 := by rw [List.length_map]; exact f2
      have hf6 := (bS.trans (s6.trans sG)) _ _ hf
      refine ⟨_, rfl, f, _, 1, v, rfl, rfl, SqT.of hf6, atI_nat (j := 1) rfl, rfl, _, rfl, ?_⟩
      by_cases ev : v = .non
      · have ee := (dx_nil hv).mpr ev
        subst ev ee
        refine iteT ?_
        rw [show endOf .none = [] from rfl, List.append_nil] at dz C2 l1
        exact ⟨_, rfl, _, rfl, D, .non, .none, zs, _, rfl, .non, .inl (SqL.of eD), dz, C2, by omega, fun z => absurd rfl z, fun y r H7 s7 dr fr => q y r H7 (sb.trans s7) dr (tell r fr)⟩
      · have ee : c ≠ .none := fun z => ev ((dx_nil hv).mp z)
        rw [decide_eq_false ev]
        refine iteF ?_
        rw [endOf_some ee, List.map_append] at dz C2 l1
        obtain ⟨zs0, v9, rfl, d0, d9⟩ := snocDx dz
        refine ⟨_, rfl, .inl ⟨rfl, _, .inl (.inl eD)⟩, D, _, v9, rfl, rfl, eD, by simp, ?_⟩
        rw [List.dropLast_concat]
        have tl := Tups.lst (ys := zs0) eD
        have nDH : H D = none := by
          cases e : H D with
          | none => rfl
          | some z =>
            rw [s16 _ _ e] at nD
            cases nD
        have s8 : Same H (upd G D (.lst zs0)) := fun z oz hz => by
          rw [upd_ne (ne_of_none hz nDH)]
          exact sb _ _ hz
        have c9 : Cpl (renC (nmOf m) c) := C2.c _ (List.mem_append_right _ (List.mem_singleton_self _))
        have p9 : pureD (renC (nmOf m) c) = true := by
          have : pureAll [renC (nmOf m) c] = true := pure_cpl fun z hz => by rw [List.mem_singleton.mp hz]; exact c9
          simpa [pureAll] using this
        have eD9 : (upd G D (.lst zs0)) D = some (.lst zs0) := upd_same
        exact ⟨_, rfl, _, rfl, D, v9, renC (nmOf m) c, zs0, ps.map (renC (nmOf m)), rfl, Dx.ts tl _ _ p9 d9, .inl (SqL.of eD9), DxAll.ts tl _ _ (pure_cpl fun z hz => C2.c z (List.mem_append_left _ hz)) d0, C2.sub fun z hz => List.mem_append_left _ hz, by rw [List.length_map]; omega, fun _ => C2.sub fun z hz => List.mem_append_right _ hz, fun y r H9 s9 dr fr => q y r H9 (s8.trans s9) dr (tell r fr)⟩
  · rcases h with ⟨_, q⟩ | ⟨ap, _⟩
    · exact q H5 (s14.trans s5)
    · exact absurd ((apartL ndm mem).mpr ap) nap
end
end K12
/-! def f(x, **names): the keywords' dict. -/
namespace Kx
open PySem PySem.Spec PyProof.Rows L2
section
variable {P : Program} {w : World} {A : Around} {E : Value → Shared → Prop} {s : Shared} {d : Addr}
theorem mapM_str {kvs : List (Key × Value)} {es : List DictEntry} (p : Pairs (mixKind P w) es kvs) {x : Str} (n : ∀ v, (Sum.inr x, v) ∉ kvs) : (∀ e ∈ es, e.key.isStr x = false) ∧ ∀ e ∈ es, e.refKey = false := by
  induction p with
  | nil => exact ⟨fun e h => (nomatch h), fun e h => (nomatch h)⟩
  | @cons e kv es kvs h1 h2 t ih =>
    obtain ⟨i1, i2⟩ := ih fun v hv => n v (List.mem_cons_of_mem _ hv)
    have h1 : keyIs kv.1 e.key = true := h1
    constructor
    · intro c hc
      rcases List.mem_cons.mp hc with q | hc
      · subst q
        rcases keyIs_shape h1 with ⟨i, tk, _, ek⟩ | ⟨y, tk, ey, ek⟩
        · rw [ek]
          rfl
        · rw [ek]
          show (y == x) = false
          refine beq_eq_false_iff_ne.mpr fun q => n kv.2 ?_
          rw [← q, ← ey]
          exact List.mem_cons_self
      · exact i1 c hc
    · intro c hc
      rcases List.mem_cons.mp hc with q | hc
      · subst q
        rcases keyIs_shape h1 with ⟨i, tk, _, ek⟩ | ⟨y, tk, ey, ek⟩ <;> (unfold DictEntry.refKey; rw [ek])
      · exact i2 c hc
theorem nsSet_dict {kvs : List (Key × Value)} {x : Str} {v : Value} {Q : Unit → Shared → Prop} (dd : s.heap.DictOf (mixKind P w) d kvs) (n : ∀ v, (Sum.inr x, v) ∉ kvs)
    (h : ∀ h' t', h'.DictOf (mixKind P w) d (kvs ++ [(Sum.inr x, v)]) → Heap.SameBut d s.heap h' → Q () { s with heap := h', toks := t' }) : wpAny (model P w) A (nsSet d x v) Q E s := by
  obtain ⟨o, es, ep, ho, ⟨e1, e2, e3⟩, hd, hk, hp, nod⟩ := dd
  obtain ⟨cl, dc, dt, sl⟩ := o
  dsimp only at e1 e2 e3 hd
  subst e1 e2 e3 hd
  obtain ⟨m1, m2⟩ := mapM_str hp n
  have a1 : es.any (·.key.isStr x) = false := by
    rw [← Array.any_toList, List.any_eq_false]
    exact fun e he => by rw [m1 e he]; simp
  have a2 : es.any (·.refKey) = false := by
    rw [← Array.any_toList, List.any_eq_false]
    exact fun e he => by rw [m2 e he]; simp
  have c : aRefKeyMayBeTheName x es = false := by rw [aRefKeyMayBeTheName_at, a1, a2]; rfl
  have pn : ∀ (hs : Int) (key : Value), Obj.putName x hs key v { cls := .type "dict", dict := none, data := .dict es ep, slots := #[] } = { cls := .type "dict", dict := none, data := .dict (es.push ⟨hs, key, v⟩) (ep + 1), slots := #[] } := fun hs key => by
    have z := PySem.W.putName_dict x hs key v es.toList ep
    unfold PySem.W.dictOf at z
    rw [Array.toArray_toList] at z
    rw [z, PySem.W.putL_new m1]
    unfold PySem.W.putN
    have : es.toList.any (·.key.isStr x) = false := by rw [Array.any_toList]; exact a1
    simp [this]
    exact Array.ext' (by simp)
  unfold nsSet strHash
  refine wpAny_bind (wpAny_bind (wpAny_askSetting (wpAny_pure (wpAny_bind (wpAny_mkText (wpAny_bind (wpAny_loadPart ho ?_)))))))
  dsimp only
  rw [c]
  refine wpAny_updatePart ho (h _ _ ?_ ⟨by simp [Heap.update], fun b hb => Heap.get?_update_other _ _ (fun z => hb z.symm)⟩)
  refine ⟨{ cls := .type "dict", dict := none, data := .dict (es.push ⟨hashStr w x, .str x s.toks, v⟩) (ep + 1), slots := #[] }, es.push ⟨hashStr w x, .str x s.toks, v⟩, ep + 1, ?_, ⟨rfl, rfl, rfl⟩, rfl, hk.push (k := Sum.inr x) (key := .str x s.toks) (show keyIs (Sum.inr x) (.str x s.toks) = true from keyIs_str x _) v, ?_, ?_⟩
  · rw [Heap.get?_update_self _ ho (by rw [pn]; rfl), pn]
    rfl
  · rw [Array.toList_push]
    have : ∀ {es : List DictEntry} {kvs : List (Key × Value)}, Pairs (mixKind P w) es kvs → Pairs (mixKind P w) (es ++ [⟨hashStr w x, .str x s.toks, v⟩]) (kvs ++ [(Sum.inr x, v)]) := by
      intro es kvs p
      induction p with
      | nil => exact .cons (show keyIs (Sum.inr x) (.str x s.toks) = true from keyIs_str x _) rfl .nil
      | cons h1 h2 _ ih => exact .cons h1 h2 ih
    exact this hp
  · rw [List.map_append, List.nodup_append]
    refine ⟨nod, by simp, fun a ha b hb => ?_⟩
    simp at hb
    subst hb
    rintro rfl
    obtain ⟨⟨k1, v1⟩, m, e⟩ := List.mem_map.mp ha
    dsimp only at e
    subst e
    exact n v1 m
/-- the keywords are put in, one by one -/
theorem fill_dict {Q : PUnit → Shared → Prop} : ∀ (l : List (Str × Value)) (s : Shared) (kvs : List (Key × Value)), s.heap.DictOf (mixKind P w) d kvs → (l.map Prod.fst).Nodup → (∀ p, p ∈ l → ∀ v, (Sum.inr p.1, v) ∉ kvs) →
    (∀ h' t', h'.DictOf (mixKind P w) d (kvs ++ l.map fun p => (Sum.inr p.1, p.2)) → Heap.SameBut d s.heap h' → Q PUnit.unit { s with heap := h', toks := t' }) →
    wpAny (model P w) A (forIn l PUnit.unit fun x _ => (nsSet d x.1 x.2 >>= fun _ => pure (ForInStep.yield PUnit.unit))) Q E s
  | [], s, kvs, dd, _, _, h => by
    rw [List.forIn_nil]
    exact wpAny_pure (h s.heap s.toks (by simpa using dd) (Heap.SameBut.refl _ _))
  | p :: l, s, kvs, dd, nd, n, h => by
    rw [List.map_cons, List.nodup_cons] at nd
    rw [List.forIn_cons]
    refine wpAny_bind (wpAny_bind (nsSet_dict dd (n p List.mem_cons_self) fun h' t' dd' sb => wpAny_pure ?_))
    refine fill_dict l { s with heap := h', toks := t' } _ dd' nd.2 (fun q hq v hv => ?_) fun h'' t'' dd'' sb' => ?_
    · rcases List.mem_append.mp hv with hv | hv
      · exact n q (List.mem_cons_of_mem _ hq) v hv
      · have e := List.mem_singleton.mp hv
        rw [Prod.mk.injEq] at e
        have e1 := Sum.inr.inj e.1
        exact nd.1 (by rw [← e1]; exact List.mem_map.mpr ⟨q, hq, rfl⟩)
    · refine h h'' t'' ?_ (sb.trans sb')
      rw [List.append_assoc] at dd''
      exact dd''
end
/-- the keywords as a dict -/
def kwD (ks : List Str) (zs : List V) : List (Key × V) := (ks.zip zs).map fun p => (Sum.inr p.1, p.2)
section
variable {CX : CXT} {P : Program} {w : World} {K : PySem.W.Frag} {mg : Str → Option Value} {base : Heap} {k : Nat} {f : Addr} {name qual : Str} {params : Arguments} {body : List Stmt} {scope : Scope} {dV kV doc pm cdv ct oc : Value} {an od : Option Addr}
  {osl : Array (Option Value)} {N ks : List Str} {sp : Sp} {p1 pd : Str}
theorem kwD_rel {ks : List Str} {zs : List V} {ws : List Value} (r : Vals zs ws) : KV (kwD ks zs) ((ks.zip ws).map fun p => (Sum.inr p.1, p.2)) := by
  induction r generalizing ks with
  | nil =>
    cases ks <;> exact .nil
  | cons h t ih =>
    cases ks with
    | nil => exact .nil
    | cons a ks => exact .cons ⟨rfl, h⟩ ih
/-- def f(x, **names) called with the keywords ks -/
theorem run_kw (lk : K.lookup f = some ⟨oc, od, .func (PySem.W.fnOf name qual params body scope dV kV doc pm an cdv ct), osl⟩) (hcd : PySem.W.codeIn K cdv qual = true) (S : FnScope N [p1, pd] scope) (hCX : StX.CXUp CX) (nk : ks.Nodup) (few : ks.length ≤ 100)
    (hb : ∀ (u : Value) (ws : List Value), ws.length = ks.length → bindArgs (PySem.W.fnOf name qual params body scope dV kV doc pm an cdv ct) ⟨[u], ks.zip ws⟩ =
      ((alloc ({ cls := .type "dict", data := .dict #[] } : Obj) : Sem Addr) >>= fun d => (forIn (ks.zip ws) PUnit.unit fun x _ => (nsSet d x.1 x.2 >>= fun _ => pure (ForInStep.yield PUnit.unit))) >>= fun _ => pure [(p1, u), (pd, Value.ref d)]))
    (hbody : ∀ (A : Around) (outer : List Env) (s : Shared) (H : Hp) (vs : List V) (Q : VK) (E : XK), Room k (A.deeper (envOfC qual scope s.heap.objs.size f cdv)) → sp vs H Q E →
      ∃ t, PSs (cxOf CX P w K mg base N qual scope f cdv A outer s H E) body t ∧ t { nx := fun _ H' => Q .non H', rt := Q } (L2.start N vs) H)
    {A : Around} {outer : List Env} {s : Shared} {H : Hp} {u : Value} {v : V} {ws : List Value} {zs : List V} {Q : VK} {E : XK} (hr : Room (k + 1) A) (e0 : Env0 P w K mg base A outer s H) (ru : RelV v u) (rz : Vals zs ws) (lz : zs.length = ks.length)
    (h : ∀ d, H d = none → sp [v, .ref d] (upd H d (.dK (kwD ks zs))) Q E) : codeAny (model P w) A (.call (.ref f) ⟨[u], ks.zip ws⟩) (CR CX outer P w H s Q E) s := by
  have hn : H s.heap.objs.size = none := e0.hok.fresh (Nat.le_refl _)
  have lw : ws.length = ks.length := by rw [← rz.length]; exact lz
  refine StX.run_bnd lk hcd S hr e0 (G := fun xs H2 => ∃ d, H d = none ∧ xs = [v, .ref d] ∧ H2 = upd H d (.dK (kwD ks zs))) (fun A' Ex Q' q => ?_) fun s2 H2 xs ⟨d, hd, ex, eH⟩ hr' => ?_
  · rw [hb u ws lw]
    refine wpAny_bind (wpAny_alloc (wpAny_bind (fill_dict (ks.zip ws) _ [] (Heap.DictOf.new s.heap) ?_ (fun _ _ _ h => nomatch h) fun h' t' dd sb => wpAny_pure ?_)))
    · rw [List.map_fst_zip (by omega)]
      exact nk
    · have kp : ∀ b o, s.heap.get? b = some o → h'.get? b = some o := fun b o e => (sb.2 b (Nat.ne_of_lt (Heap.lt_size e))).trans (Heap.get?_push_of_some _ e)
      have big := StX.env0_big e0
      have ln : (kwD ks zs).length ≤ 100 := by
        rw [kwD, List.length_map, List.length_zip]
        omega
      have new : ObjOk P w (upd H s.heap.objs.size (.dK (kwD ks zs))) h' s.heap.objs.size (.dK (kwD ks zs)) :=
        dk_new (Nat.le_trans ln (by decide)) (beq_eq_false_iff_ne.mpr (Ne.symm (Nat.ne_of_lt big))) (kwD_rel rz) (by simpa using dd)
      have un : Un (frs outer) [] H (upd H s.heap.objs.size (.dK (kwD ks zs))) s.heap h' := Un.laid kp (Nat.le_refl _) hn
      have e1 : Env0 P w K mg base A outer { s with heap := h', toks := t' } (upd H s.heap.objs.size (.dK (kwD ks zs))) := by
        refine ⟨e0.frames, e0.mod, fun b o e => ⟨kp b o (e0.bs b o e).1, ?_⟩, ?_, Heap.FunFrames.of_keeps (fun b o e _ => ⟨o, kp b o e, rfl⟩) e0.funs, fun b hb => ?_, e0.hok.laid kp (Nat.le_refl _) new, e0.bare⟩
        · rw [upd_ne (Nat.ne_of_lt (Heap.lt_size (e0.bs b o e).1))]
          exact (e0.bs b o e).2
        · have z := sb.1
          show base.objs.size ≤ h'.objs.size
          rw [z, Heap.size_push]
          exact Nat.le_succ_of_le e0.bsz
        · obtain ⟨_, o, ho, _⟩ := e0.funs.mem hb
          rw [upd_ne (Nat.ne_of_lt (Heap.lt_size ho))]
          exact e0.frf b hb
      exact q _ _ [v, .ref s.heap.objs.size] [u, .ref s.heap.objs.size] e1 un rfl (fun e s' => hCX outer s H _ _ E e s' un kp rfl) (.cons ru (.cons rfl .nil)) rfl ⟨_, hn, rfl, rfl⟩
  · subst ex eH
    exact hbody A outer s2 _ _ Q E hr' (h d hd)
/-- a def f(x, **names) keeps sp, called with the keywords ks -/
def KwR (P : Program) (w : World) (K : PySem.W.Frag) (mg : Str → Option Value) (base : Heap) (CX : CXT) (k : Nat) (f : Addr) (ks : List Str) (sp : Sp) : Prop :=
  ∀ (A : Around) (outer : List Env) (s : Shared) (H : Hp) (u : Value) (v : V) (ws : List Value) (zs : List V) (Q : VK) (E : XK), Room k A → Env0 P w K mg base A outer s H → RelV v u → Vals zs ws → zs.length = ks.length →
    (∀ d, H d = none → sp [v, .ref d] (upd H d (.dK (kwD ks zs))) Q E) → codeAny (model P w) A (.call (.ref f) ⟨[u], ks.zip ws⟩) (CR CX outer P w H s Q E) s
theorem KwR.none (R : KwR P w K mg base CX k f [] sp) : L2.FnR P w K mg base CX k f (fun vs H Q E => ∃ v, vs = [v] ∧ ∀ d, H d = none → sp [v, .ref d] (upd H d (.dK [])) Q E) := by
  intro A outer s H us vs Q E hr e0 r h
  obtain ⟨v, rfl, h⟩ := h
  obtain ⟨u, rfl, ru⟩ := r.one
  exact R A outer s H u v [] [] Q E hr e0 ru .nil rfl h
end
section
variable {X : Cx} {CX : CXT} {k : Nat} {f : Addr} {ks : List Str} {sp : Sp} {E : XK} {x : Str} {p pos : Pos} {e : Expr} {kws : List Keyword} {t tk : TA}
theorem pe_callKw (R : KwR X.prog X.w X.K X.mg X.base CX k f ks sp) (hr : Room k X.A) (hg : Gl X x) (hm : X.mg x = some (.ref f)) (hk : PySem.W.keepIn X.K (.ref f) = true) (hx : Passes CX X E) (ha : PA X [e] t) (hkw : PK X kws tk)
    (hall : (backToKw pos (keywordEach kws X.env)).all (·.1.isSome) = true := by rfl) (hks : (backToKw pos (keywordEach kws X.env)).filterMap (·.1) = ks := by rfl) (hdb : (x == ("__debug__" : Str)) = false := by decide)
    (he : starEach [e] X.env = (false, eval e X.env) :: starEach [] X.env := by rfl) (hpl : ((backTo pos (starEach [e] X.env)).any (·.1) || (backToKw pos (keywordEach kws X.env)).any (·.1.isNone)) = false := by rfl) :
    PE X (.Call (.Name x p) [e] kws pos) (fun σ H Q => t σ H fun vs H1 => tk σ H1 fun zs H2 => ∃ v, vs = [v] ∧ zs.length = ks.length ∧ ∀ d, H2 d = none → sp [v, .ref d] (upd H2 d (.dK (kwD ks zs))) Q E) := by
  refine ⟨fun pins s σ H Q I h => wpAny_Call_Name_kw (ld_glob I hg hm ?_ hdb)⟩
  refine PySem.W.callWith_KW (h₀ := X.base) I.ok.mod.kin hk hall (thn (ha.run pos pins s σ H _ I h) fun us s1 ⟨vs, H1, I1, r, q⟩ => ?_) hpl he
  refine thn (hkw.run pos pins s1 σ H1 _ I1 q) fun ws s2 ⟨zs, H2, I2, rz, v, ev, lz, q2⟩ => ⟨I2.kIn, ?_⟩
  subst ev
  obtain ⟨u, rfl, ru⟩ := r.one
  rw [hks]
  refine wpAny_call (codeAny_mono (R X.A X.stack s2 H2 u v ws zs Q E hr I2.env0 ru rz lz q2) fun r s' hq => ?_)
  cases r with
  | error e => exact hx pins σ H2 s2 e s' I2 hq
  | ok fl =>
    cases fl with
    | ret u => exact I2.after hq
    | _ => exact hq.elim
end
end Kx
/-! fact_renamed, make_fact. -/
namespace K12
open PySem PySem.Spec PyProof.Rows L2 Kx
section
variable {P : Program} {w : World} {K : PySem.W.Frag} {mg : Str → Option Value} {base : Heap}
theorem ok_frn (T : Tx K mg) {ks : List Str} (nk : ks.Nodup) (few : ks.length ≤ 100)
    (hb : ∀ (kV dc pm cd ct : Value) (an : Option Addr) (u : Value) (ws : List Value), ws.length = ks.length → bindArgs (PySem.W.fnOf "fact_renamed" "fact_renamed" (defArgs s_fact_renamed) (defBody s_fact_renamed) (defScope s_fact_renamed) .none kV dc pm an cd ct) ⟨[u], ks.zip ws⟩ =
      ((alloc ({ cls := .type "dict", data := .dict #[] } : Obj) : Sem Addr) >>= fun d => (forIn (ks.zip ws) PUnit.unit fun x _ => (nsSet d x.1 x.2 >>= fun _ => pure (ForInStep.yield PUnit.unit))) >>= fun _ => pure ([("fact", u), ("names", Value.ref d)] : List (Str × Value)))) :
    KwR P w K mg base (L2.CX P w) 8 T.afact_renamed ks (spFr P w K T.CInvalidFact T.CInvalidName T.CInvalidOperation) := by
  obtain ⟨oc, od, kV, doc, pm, an, cdv, ct, osl, ed, lk, hcd⟩ := T.ffact_renamed.ex
  have G := ok_fr (P := P) (w := w) (base := base) T
  rw [ed] at lk
  intro A outer s H u v ws zs Q E hr e0 ru rz lz h
  refine run_kw (N := N_fact_renamed) (sp := spFr P w K T.CInvalidFact T.CInvalidName T.CInvalidOperation) lk hcd sc_fact_renamed StX.cxUp nk few (fun u ws hl => hb _ _ _ _ _ _ u ws hl) (fun A outer s H vs Q E hr h => ?_) hr e0 ru rz lz h
  refine ⟨_, (pss_one (ps_ret (pe_call G (hr.mono (by omega)) (by rfl) T.gfact_renamed_by T.ffact_renamed_by.kp T.nfact_renamed_by .nil (passes_call (takes_of rfl rfl rfl rfl) (fun _ _ _ _ h => h)) (pa_cons (pv 0) (pa_cons (pv 1) pa_nil))))), ?_⟩
  obtain ⟨x, v2, d, rfl, rest⟩ := h
  exact ⟨_, rfl, _, rfl, x, v2, d, rfl, rest⟩
theorem ok_frn4 (T : Tx K mg) : KwR P w K mg base (L2.CX P w) 8 T.afact_renamed ["a", "c", "f", "b"] (spFr P w K T.CInvalidFact T.CInvalidName T.CInvalidOperation) := ok_frn T (by decide) (by decide) fun kV dc pm cd ct an u ws hl => match ws, hl with | [_, _, _, _], _ => rfl
end
end K12
/-! Terms renamed. -/
namespace K12
open PySem PySem.Spec PyProof.Rows L2 Kx
theorem cnt_lt (l : List Str) : Kx.cnt l < l.length ↔ ¬ l.Nodup := by
  have e := once_len l (und l) (und_nodup l) (mem_und l)
  rw [und_len] at e
  constructor
  · intro h z
    have := e.2.mpr z
    omega
  · intro h
    have : Kx.cnt l ≠ l.length := fun z => h (e.2.mp z)
    omega
mutual
theorem ren_depth (f : Str → Str) : ∀ d : PyData, (renD f d).depth ≤ d.depth
  | .tuple (x :: ds) => by
    have := ren_depths f ds
    cases x <;> (simp only [renD, PyData.depth, PyData.depthAll]; omega)
  | .tuple [] => by simp [renD]
  | .none => by simp [renD]
  | .bool _ => by simp [renD]
  | .int _ => by simp [renD]
  | .str _ => by simp [renD]
  | .list _ => by simp [renD]
  | .dict _ => by simp [renD]
theorem ren_depths (f : Str → Str) : ∀ ds : List PyData, PyData.depthAll (renAll f ds) ≤ PyData.depthAll ds
  | [] => Nat.le_refl _
  | d :: ds => by
    have := ren_depth f d
    have := ren_depths f ds
    rw [renAll, PyData.depthAll, PyData.depthAll]
    omega
end
def renR (f : Str → Str) (r : NK) : NK := (f r.1, r.2)
mutual
theorem ren_rows (f : Str → Str) : ∀ d : PyData, formedD d = true → rowsD (renD f d) = (rowsD d).map (renR f)
  | .tuple (x :: ds), h => by
    rw [formedD, Bool.and_eq_true, Bool.and_eq_true] at h
    cases x with
    | str z =>
      rw [renD, rowsD, rowsD, List.map_cons, ren_rowss f ds h.2, renAll_map, List.length_map]
      rfl
    | _ => cases h.1.2
  | .tuple [], h => by cases h
  | .none, h => by cases h
  | .bool _, h => by cases h
  | .int _, h => by cases h
  | .str _, h => by cases h
  | .list _, h => by cases h
  | .dict _, h => by cases h
theorem ren_rowss (f : Str → Str) : ∀ ds : List PyData, formedAll ds = true → rowsAll (renAll f ds) = (rowsAll ds).map (renR f)
  | [], _ => rfl
  | d :: ds, h => by
    rw [formedAll, Bool.and_eq_true] at h
    rw [renAll, rowsAll, rowsAll, List.map_append, ren_rows f d h.1, ren_rowss f ds h.2]
end
mutual
theorem ren_inj {f : Str → Str} {rs : List NK} (inj : ∀ r, r ∈ rs → ∀ t, t ∈ rs → f r.1 = f t.1 → r.1 = t.1) : ∀ d e : PyData, formedD d = true → formedD e = true → (∀ r, r ∈ rowsD d → r ∈ rs) → (∀ r, r ∈ rowsD e → r ∈ rs) → renD f d = renD f e → d = e
  | .tuple (x :: ds), e, h, h2, hr, hr2, eq => by
    obtain ⟨y, es, rfl, _, _, fe⟩ := formed_shape h2
    rw [formedD, Bool.and_eq_true, Bool.and_eq_true] at h
    cases x with
    | str z =>
      rw [renD, renD] at eq
      simp only [PyData.tuple.injEq, List.cons.injEq, PyData.str.injEq] at eq
      have e1 : z = y := inj (z, ds.length) (hr _ (by rw [rowsD]; exact List.mem_cons_self)) (y, es.length) (hr2 _ (by rw [rowsD]; exact List.mem_cons_self)) eq.1
      have e2 := ren_injs inj ds es h.2 fe (fun r hm => hr r (by rw [rowsD]; exact List.mem_cons_of_mem _ hm)) (fun r hm => hr2 r (by rw [rowsD]; exact List.mem_cons_of_mem _ hm)) eq.2
      rw [e1, e2]
    | _ => cases h.1.2
  | .tuple [], _, h, _, _, _, _ => by cases h
  | .none, _, h, _, _, _, _ => by cases h
  | .bool _, _, h, _, _, _, _ => by cases h
  | .int _, _, h, _, _, _, _ => by cases h
  | .str _, _, h, _, _, _, _ => by cases h
  | .list _, _, h, _, _, _, _ => by cases h
  | .dict _, _, h, _, _, _, _ => by cases h
theorem ren_injs {f : Str → Str} {rs : List NK} (inj : ∀ r, r ∈ rs → ∀ t, t ∈ rs → f r.1 = f t.1 → r.1 = t.1) : ∀ ds es : List PyData, formedAll ds = true → formedAll es = true → (∀ r, r ∈ rowsAll ds → r ∈ rs) → (∀ r, r ∈ rowsAll es → r ∈ rs) → renAll f ds = renAll f es → ds = es
  | [], [], _, _, _, _, _ => rfl
  | [], _ :: _, _, _, _, _, eq => by simp [renAll] at eq
  | _ :: _, [], _, _, _, _, eq => by simp [renAll] at eq
  | d :: ds, e :: es, h, h2, hr, hr2, eq => by
    rw [formedAll, Bool.and_eq_true] at h h2
    rw [renAll, renAll, List.cons.injEq] at eq
    rw [rowsAll] at hr hr2
    rw [ren_inj inj d e h.1 h2.1 (fun r hm => hr r (List.mem_append_left _ hm)) (fun r hm => hr2 r (List.mem_append_left _ hm)) eq.1, ren_injs inj ds es h.2 h2.2 (fun r hm => hr r (List.mem_append_right _ hm)) (fun r hm => hr2 r (List.mem_append_right _ hm)) eq.2]
end
theorem tm_ren {rs : List NK} {n : Nat} {d : PyData} {f : Str → Str} (hf : ∀ x, isNm x = true → isNm (f x) = true) (h : Tm rs n d) : Tm (rs.map (renR f)) n (renD f d) :=
  ⟨ren_formed f hf d h.fm, fun r hr => by
    rw [ren_rows f d h.fm] at hr
    obtain ⟨t, ht, rfl⟩ := List.mem_map.mp hr
    exact List.mem_map.mpr ⟨t, h.rw t ht, rfl⟩, Nat.le_trans (ren_depth f d) h.dp⟩
theorem cp_ren {rs : List NK} {n : Nat} {z : PyData} {f : Str → Str} (hf : ∀ x, isNm x = true → isNm (f x) = true) (h : Cp rs n z) : Cp (rs.map (renR f)) n (renC f z) := by
  obtain ⟨a, b, rfl, ha, hb⟩ := h
  exact ⟨_, _, rfl, tm_ren hf ha, tm_ren hf hb⟩
theorem cps_ren {rs : List NK} {n : Nat} {f : Str → Str} (hf : ∀ x, isNm x = true → isNm (f x) = true) {ds : List PyData} (h : ∀ z, z ∈ ds → Cp rs n z) : ∀ z, z ∈ ds.map (renC f) → Cp (rs.map (renR f)) n z := fun z hz => by
  obtain ⟨y, hy, rfl⟩ := List.mem_map.mp hz
  exact cp_ren hf (h y hy)
theorem func_ren {rs : List NK} {f : Str → Str} (F : Func rs) (inj : ∀ r, r ∈ rs → ∀ t, t ∈ rs → f r.1 = f t.1 → r.1 = t.1) : Func (rs.map (renR f)) := by
  intro r hr t ht e
  obtain ⟨r0, h0, rfl⟩ := List.mem_map.mp hr
  obtain ⟨t0, h1, rfl⟩ := List.mem_map.mp ht
  exact F r0 h0 t0 h1 (inj r0 h0 t0 h1 e)
theorem fa_sz {rs : List NK} {n m : Nat} {L : List PyData} {c : PyData} (h : Fa rs n m L c) (sz : (m + 1) * (2 * big n + 1) ≤ 900) : szD (.tuple [.tuple L, c]) ≤ 1000 := by
  obtain ⟨s1, z1⟩ := cp_size fun z hz => (h.all z hz).cp
  have le : (endOf c).length ≤ 1 := by cases c <;> simp [endOf]
  have z2 : (L ++ endOf c).length * (2 * big n + 1) ≤ (m + 1) * (2 * big n + 1) := Nat.mul_le_mul_right _ (by rw [List.length_append]; have := h.len; omega)
  rw [szAll_append] at z1
  have ec : szD c ≤ szAll (endOf c) + 1 := by
    rcases h.c with rfl | hc
    · simp [szD, endOf, szAll]
    · obtain ⟨a, b, rfl, _⟩ := hc.ex
      show _ ≤ szAll [PyData.tuple [a, b]] + 1
      simp [szAll]
  simp only [szD, szAll]
  omega
/-- a key's first letter, and q -/
def keyQ (x : Str) : Option Str := (x.cps.toList[0]?).map fun c => ⟨#[c] ++ ("q" : Str).cps⟩
theorem keyQ_ok : ∀ x, x ∈ allN → ∃ c, x.cps.toList[0]? = some c ∧ isNm ((⟨#[c]⟩ : Str) ++ ("q" : Str)) = true := by
  have h : allN.all (fun x => match x.cps.toList[0]? with | some c => isNm ((⟨#[c]⟩ : Str) ++ ("q" : Str)) | none => false) = true := by decide +kernel
  intro x hx
  have := List.all_eq_true.mp h x hx
  split at this
  · exact ⟨_, by assumption, this⟩
  · cases this
end K12
/-! _law_renamed_right. -/
namespace K12
open PySem PySem.Spec PyProof.Rows L2 Kx
def NmP (p : Str × Str) : Prop := isNm p.1 = true ∧ isNm p.2 = true
/-- a dict of names -/
structure Tb (m : List (Str × Str)) (n : Nat) : Prop where
  nm : ∀ p, p ∈ m → NmP p
  nd : (m.map Prod.fst).Nodup
  ln : m.length ≤ n
theorem Tb.merge {l : List (Str × Str)} (h : ∀ p, p ∈ l → NmP p) : Tb (mergeS [] l) l.length := ⟨mergeS_all _ _ (fun p hp => nomatch hp) h, mergeS_keys _ _ List.nodup_nil, by have := mergeS_len l []; simpa using this⟩
theorem Tb.le {m : List (Str × Str)} {n k : Nat} (h : Tb m n) (l : n ≤ k) : Tb m k := ⟨h.nm, h.nd, Nat.le_trans h.ln l⟩
theorem nmOf_nm {m : List (Str × Str)} {n : Nat} (h : Tb m n) (x : Str) (hx : isNm x = true) : isNm (nmOf m x) = true := by
  unfold nmOf look
  cases e : m.find? fun p => decide (p.1 = x) with
  | none => exact hx
  | some p => exact (h.nm p (List.mem_of_find?_eq_some e)).2
section
variable {P : Program} {w : World} {K : PySem.W.Frag} {mg : Str → Option Value} {base : Heap}
def spRr (K : PySem.W.Frag) : Sp := fun vs H Q _ => ∃ (a b : Addr) (m : Nat) (zs : List Rw), vs = [.ref a, .ref b] ∧ Dice H a m ∧ m + 1400 < cap ∧ RowsIn H b zs ∧ b ≠ a ∧ Good (zs.map Prod.snd) ∧
  ∀ H', But a H H' → Dice H' a (m + 1400) → Q (.bl true) H'
theorem ok_rr (T : Tx K mg) : FnOk P w K mg base CX0 11 T.a_law_renamed_right T.d_law_renamed_right ["dice", "known"] (spRr K) := by
  have nd := sc__law_renamed_right.nd
  have GR := ok_roll (P := P) (w := w) (base := base) T
  have GF := ok_df (P := P) (w := w) (base := base) T 3 (by decide)
  have GM := ok_mixed (P := P) (w := w) (base := base) T
  have GN := ok_on (P := P) (w := w) (base := base) T 3
  have GD := ok_due (P := P) (w := w) (base := base) T
  have GC := ok_fr (P := P) (w := w) (base := base) T
  refine T.f_law_renamed_right.ok sc__law_renamed_right (fun vs H Q E h => ?_) (fun cdv A outer s H vs Q E hr h => ?_)
  · obtain ⟨a, b, m, zs, rfl, _⟩ := h
    rfl
  obtain ⟨a, b, m, zs, rfl, hd, hm, ri, nba, gd, q⟩ := h
  unfold cap at hm
  have F := gd.fn
  have hu := hu_of hr
  refine ⟨_, (pss_cons (ps_set (i := 2) nd rfl (.inl rfl) (pe_call GF (hr.mono (by omega)) (by rfl) T.g_law_drawn_fact T.f_law_drawn_fact.kp T.n_law_drawn_fact .nil pass0 (pa_cons (pv 0) (pa_cons (pv 1) (pa_cons pe_int (pa_cons pe_int pa_nil))))))
      (pss_cons (ps_set (i := 3) nd rfl (.inl rfl) (pe_slice sl_list (pe_call GM (hr.mono (by omega)) (by rfl) T.g_law_mixed T.f_law_mixed.kp T.n_law_mixed .nil pass0 (pa_cons (pv 0) (pa_cons (pe_lc (own := [("name", 10), ("count", 11)]) (g := (gTup K 2 (gCons (gName 10) (gCons (gName 11) gNil)))) (tt := tYes) (by rfl) nd (pi_list (pv 1)) (blkOk_by (own := [("name", 10), ("count", 11)]) (N := N__law_renamed_right) (sc := defScope s__law_renamed_right) (by decide +kernel)) (fun _ _ _ _ _ => pg_tup rfl (pgs_cons (pg_name (i := 10) nd rfl (.inl rfl)) (pgs_cons (pg_name (i := 11) nd rfl (.inl rfl)) pgs_nil))) (fun _ _ _ _ _ => pts_nil) (fun _ _ _ _ _ => (pv 10))) pa_nil))) po_none (po_some (pe_op op_add pe_int (pe_call GR (hr.mono (by omega)) (by rfl) T.g_law_roll T.f_law_roll.kp T.n_law_roll .nil pass0 (pa_cons (pv 0) (pa_cons (pe_callB call_len_seq (by rfl) T.b_len (by decide +kernel) (pa_cons (pv 1) pa_nil)) pa_nil)))))))
      (pss_cons (ps_set (i := 4) nd rfl (.inr rfl) (pe_callTy (call_dictP rfl) (by rfl) T.b_dict (by decide +kernel) (pa_cons (pe_lc (own := [("key", 9)]) (g := (gName 9)) (tt := tYes) (by rfl) nd (pi_list (pv 3)) (blkOk_by (own := [("key", 9)]) (N := N__law_renamed_right) (sc := defScope s__law_renamed_right) (by decide +kernel)) (fun _ _ _ _ _ => pg_name (i := 9) nd rfl (.inl rfl)) (fun _ _ _ _ _ => pts_nil) (fun _ _ _ _ _ => (pe_tup (pa_cons (pv 9) (pa_cons (pe_op (r := rAddS) op_add_str (pe_ix (r := rIxS) ix_str (pv 9) pe_int (fun _ _ => rfl)) pe_str) pa_nil))))) pa_nil)))
      (C8.pss_cut (ps_if (pt_cmpR op_eq (pe_call GR (hr.mono (by omega)) (by rfl) T.g_law_roll T.f_law_roll.kp T.n_law_roll .nil pass0 (pa_cons (pv 0) (pa_cons pe_int pa_nil))) pe_int (nomark _)) (pss_one (ps_set (i := 4) nd rfl (.inr rfl) (pe_callTy (call_dictP rfl) (by rfl) T.b_dict (by decide +kernel) (pa_cons (pe_listZip rfl (by rfl) T.b_list (by rfl) T.b_zip (pa_cons (pv 3) (pa_cons (pe_call GM (hr.mono (by omega)) (by rfl) T.g_law_mixed T.f_law_mixed.kp T.n_law_mixed .nil pass0 (pa_cons (pv 0) (pa_cons (pv 3) pa_nil))) pa_nil))) pa_nil)))) pss_nil)
      (pss_cons (ps_asg (pe_ix ix_list (pv 3) pe_int (fun _ _ => rfl)) (pg_sub (pv 4) pe_str (set_dict hu)))
      (pss_cons (ps_setLc (i := 5) (own := [("one", 7), ("other", 8)]) (g := (gTup K 2 (gCons (gName 7) (gCons (gName 8) gNil)))) (tt := tYes) (by rfl) nd rfl rfl (sw_true rfl rfl rfl (by decide +kernel)) (pi_tup (pe_ix ix_tup (pv 2) pe_int (fun _ _ => rfl))) (blkOk_by (own := [("one", 7), ("other", 8)]) (N := N__law_renamed_right) (sc := defScope s__law_renamed_right) (by decide +kernel)) (fun _ _ _ _ _ => pg_tup rfl (pgs_cons (pg_name (i := 7) nd rfl (.inl rfl)) (pgs_cons (pg_name (i := 8) nd rfl (.inl rfl)) pgs_nil))) (fun _ _ _ _ _ => pts_nil) (fun _ _ _ _ _ => (pe_tup (pa_cons (pe_call GN (hr.mono (by omega)) (by rfl) T.g_law_other_names T.f_law_other_names.kp T.n_law_other_names .nil pass0 (pa_cons (pv 7) (pa_cons (pv 4) pa_nil))) (pa_cons (pe_call GN (hr.mono (by omega)) (by rfl) T.g_law_other_names T.f_law_other_names.kp T.n_law_other_names .nil pass0 (pa_cons (pv 8) (pa_cons (pv 4) pa_nil))) pa_nil)))))
      (C8.pss_cut (ps_set (i := 6) nd rfl (.inl rfl) (pe_ifExp (pt_cmpR op_isN (pe_ix ix_tup (pv 2) pe_int (fun _ _ => rfl)) pe_non (nomark _)) pe_non (pe_callTy call_tuple_of (by rfl) T.b_tuple (by decide +kernel) (pa_cons (pe_lc (own := [("one", 7)]) (g := (gName 7)) (tt := tYes) (by rfl) nd (pi_tup (pe_ix ix_tup (pv 2) pe_int (fun _ _ => rfl))) (blkOk_by (own := [("one", 7)]) (N := N__law_renamed_right) (sc := defScope s__law_renamed_right) (by decide +kernel)) (fun _ _ _ _ _ => pg_name (i := 7) nd rfl (.inl rfl)) (fun _ _ _ _ _ => pts_nil) (fun _ _ _ _ _ => (pe_call GN (hr.mono (by omega)) (by rfl) T.g_law_other_names T.f_law_other_names.kp T.n_law_other_names .nil pass0 (pa_cons (pv 7) (pa_cons (pv 4) pa_nil))))) pa_nil))))
      (pss_cons (ps_if (pt_cmpR op_lt (pe_lenSetT (by rfl) (by rfl) T.b_len (by rfl) T.b_set (pe_lc (own := [("name", 10), ("count", 11)]) (g := (gTup K 2 (gCons (gName 10) (gCons (gName 11) gNil)))) (tt := tYes) (by rfl) nd (pi_list (pv 1)) (blkOk_by (own := [("name", 10), ("count", 11)]) (N := N__law_renamed_right) (sc := defScope s__law_renamed_right) (by decide +kernel)) (fun _ _ _ _ _ => pg_tup rfl (pgs_cons (pg_name (i := 10) nd rfl (.inl rfl)) (pgs_cons (pg_name (i := 11) nd rfl (.inl rfl)) pgs_nil))) (fun _ _ _ _ _ => pts_nil) (fun _ _ _ _ _ => (pe_dget2 hu (pv 4) (pv 10) (pv 10) ⟨by rfl, by rfl, by rfl, by rfl⟩)))) (pe_callB call_len_seq (by rfl) T.b_len (by decide +kernel) (pa_cons (pv 1) pa_nil)) (nomark _)) (pss_one (ps_ret pe_bl)) pss_nil)
      (pss_one (ps_ret (pe_cmpR (op_eqF (room200 hr)) (pe_call (E := E0) GC (hr.mono (by omega)) (by rfl) T.gfact_renamed_by T.ffact_renamed_by.kp T.nfact_renamed_by .nil (passes_call takes00 (fun _ _ _ _ h => h)) (pa_cons (pv 2) (pa_cons (pv 4) pa_nil))) (pe_call GD (hr.mono (by omega)) (by rfl) T.g_law_due T.f_law_due.kp T.n_law_due .nil pass0 (pa_cons (pv 6) (pa_cons (pv 5) pa_nil))) (nomark _)))))))))))), ?_⟩
  refine ⟨_, rfl, _, rfl, a, b, 3, m, zs, rfl, by decide, by decide, by decide, hd, by unfold cap; omega, ri, nba, gd, fun x L c H1 b1 d1 dx f0 => ?_⟩
  have ri1 := ri.but b1 hd nba
  have lz : zs.length ≤ 20 := by
    have := gd.few
    rwa [List.length_map] at this
  have l2z : 2 ≤ zs.length := by
    obtain ⟨x1, y1, ne, h1, h2⟩ := gd.two
    have hl := gd.two
    rw [← List.length_map (f := Prod.snd)]
    match hq : zs.map Prod.snd with
    | [] => rw [hq] at h1; cases h1
    | [z] =>
      rw [hq, List.mem_singleton] at h1 h2
      rw [← h2] at h1
      exact absurd (congrArg Prod.fst h1) ne
    | _ :: _ :: _ => simp
  have inN : ∀ z, z ∈ zs → z.2.1 ∈ allN := fun z hz => gd.inn z.2 (List.mem_map.mpr ⟨z, hz, rfl⟩)
  have nmN : ∀ z, z ∈ zs → isNm z.2.1 = true := fun z hz => (gd.nm z.2 (List.mem_map.mpr ⟨z, hz, rfl⟩)).1
  -- keys
  refine ⟨_, rfl, _, rfl, b, rfl, ⟨_, SqL.of ri1.1⟩, fun D nD => ?_⟩
  refine lc_list (K := K) (a := b) (xs := zs.map fun z => V.ref z.1) (fun i G => Same H1 G ∧ G D = some (.lst (((zs.take i).map fun z => z.2.1).map V.str))) ⟨same_put nD, by rw [upd_same]; simp⟩ (fun i G _ h => SqL.of (h.1 _ _ ri1.1)) ?_ ?_
  · rintro i y G hi ⟨sG, eD⟩
    rw [List.getElem?_map] at hi
    obtain ⟨z, hz, rfl⟩ := Option.map_eq_some_iff.mp hi
    have lt : i < zs.length := (List.getElem?_eq_some_iff.mp hz).1
    have ez := sG _ _ (ri1.2 z (List.mem_of_getElem? hz))
    refine ⟨z.1, _, rfl, SqT.of ez, rfl, _, _, rfl, _, _, rfl, rfl, rfl, (iteT (B := False) ?_ : if true = true then _ else False)⟩
    refine ⟨_, rfl, _, eD, ?_, fun k o hk => ?_, ?_⟩
    · rw [List.length_map, List.length_map, List.length_take]
      exact small1000 (by omega)
    · rw [upd_ne (ne_of_none hk nD)]
      exact sG _ _ hk
    · rw [upd_same, List.take_add_one, hz, Option.toList_some, List.map_append, List.map_append]
      rfl
  rintro H2 ⟨s2, eD⟩
  rw [List.length_map, List.take_length] at eD
  have d2 := d1.up s2
  have nDa : D ≠ a := d1.ne nD
  refine ⟨a, D, m + 1300, _, rfl, d2, by rw [List.length_map, List.length_map]; unfold cap; omega, SqL.of eD, nDa, by rw [List.length_map, List.length_map]; omega, fun ys q1 H3 b3 d3 pm nq1 nq1a eq1 => ?_⟩
  rw [List.length_map, List.length_map] at d3
  obtain ⟨ws, pw, rfl⟩ := perm_back pm.symm (zs.map fun z => z.2.1) rfl
  have lws : ws.length = zs.length := by rw [pw.length_eq, List.length_map]
  have b13 : But a H1 H3 := (But.of s2).trans b3
  have ri3 := ri1.but b13 d1 nba
  refine ⟨_, rfl, _, rfl, b, _, rfl, .inl (SqL.of ri3.1), a, m + 1320, _, rfl, d3.le (by omega), by unfold cap; omega, by rw [List.length_map]; omega, by rw [List.length_map]; omega, fun r H4 b4 d4 r0 r1 => ⟨1, r, rfl, rfl, _, rfl, q1, _, rfl, .inl (.inl (b4 _ _ eq1 nq1a)), fun e ne => ?_⟩⟩
  rw [cut_upto (by omega), ← List.map_take]
  have se := same_put (o := .lst ((ws.take (1 + r).toNat).map V.str)) ne
  have nea := d4.ne ne
  have lk : (ws.take (1 + r).toNat).length ≤ 20 ∧ 0 < (ws.take (1 + r).toNat).length := by
    rw [List.length_take]
    omega
  have hk : ∀ x, x ∈ ws.take (1 + r).toNat → x ∈ allN ∧ isNm x = true := fun x hx => by
    obtain ⟨z, hz, rfl⟩ := List.mem_map.mp (pw.mem_iff.mp (List.mem_of_mem_take hx))
    exact ⟨inN z hz, nmN z hz⟩
  have ee : (upd H4 e (.lst ((ws.take (1 + r).toNat).map V.str))) e = some (.lst ((ws.take (1 + r).toNat).map V.str)) := upd_same
  have d5 := d4.up se
  have b15 : But a H1 (upd H4 e (.lst ((ws.take (1 + r).toNat).map V.str))) := b13.trans (b4.trans (But.of se))
  generalize upd H4 e (.lst ((ws.take (1 + r).toNat).map V.str)) = H5 at ee d5 b15
  generalize ws.take (1 + r).toNat = ks at lk hk ee ⊢
  clear ri3 eq1 nq1 nq1a se d4 b4 d3 b3 pm eD d2 s2 nD nDa ne
  -- table
  refine ⟨_, rfl, e, rfl, ⟨_, SqL.of ee⟩, fun D nD => ?_⟩
  refine lc_list (K := K) (a := e) (xs := ks.map V.str) (fun i G => Same H5 G ∧ ∃ ps l, G D = some (.lst (ps.map V.ref)) ∧ PrA G ps l ∧ ps.length = i ∧ ∀ p, p ∈ l → NmP p) ⟨same_put nD, [], [], upd_same, .nil, rfl, fun p hp => nomatch hp⟩ (fun i G _ h => SqL.of (h.1 _ _ ee)) ?_ ?_
  · rintro i y G hi ⟨sG, ps, l, eD, pr, lp, nl⟩
    rw [List.getElem?_map] at hi
    obtain ⟨x0, hx, rfl⟩ := Option.map_eq_some_iff.mp hi
    have lt : i < ks.length := (List.getElem?_eq_some_iff.mp hx).1
    obtain ⟨k1, k2⟩ := hk x0 (List.mem_of_getElem? hx)
    obtain ⟨c0, hc, hq⟩ := keyQ_ok x0 k1
    have l8 : x0.length ≤ 8 := by
      simp only [isNm, Bool.and_eq_true, decide_eq_true_eq] at k2
      omega
    refine ⟨rfl, (iteT (B := False) ?_ : if true = true then _ else False)⟩
    refine ⟨_, rfl, _, rfl, x0, 0, c0, rfl, rfl, Nat.le_of_lt (small1000 (by omega)), atI_nat (j := 0) hc, ⟨#[c0]⟩, "q", rfl, rfl, by show 1 + 1 ≤ sizeLine; decide, by show 2 ≤ sizeLine; decide, fun u nu => ?_⟩
    have su := same_put (o := .tup [.str x0, .str ((⟨#[c0]⟩ : Str) ++ ("q" : Str))]) nu
    have eDu := su _ _ eD
    have tl := Tups.lst (ys := (ps ++ [u]).map V.ref) eDu
    refine ⟨_, eDu, by rw [List.length_map]; exact small1000 (by omega), fun k o hk => ?_, ps ++ [u], l ++ [(x0, (⟨#[c0]⟩ : Str) ++ ("q" : Str))], by rw [upd_same, List.map_append]; rfl, ?_, by rw [List.length_append, lp]; rfl, fun p hp => ?_⟩
    · rw [upd_ne (ne_of_none hk nD)]
      exact su _ _ (sG _ _ hk)
    · have := PrA.snoc (x := x0) (y := (⟨#[c0]⟩ : Str) ++ ("q" : Str)) (q := u) ((pr.up (Tups.of su)).up tl) (tl _ _ upd_same)
      rw [List.map_append] at this
      exact this
    · rcases List.mem_append.mp hp with hp | hp
      · exact nl p hp
      · rw [List.mem_singleton.mp hp]
        exact ⟨k2, hq⟩
  rintro H6 ⟨s6, ps, l, eD, pr, lp, nl⟩
  rw [List.length_map] at lp
  have ll : l.length ≤ 20 := by
    have := pr.len
    omega
  refine ⟨D, ps, strD l, rfl, SqL.of eD, pr.dict, fun p3 np3 => ?_⟩
  have s7 := s6.trans (same_put (o := .dK (mergeK [] (strD l))) np3)
  have e3 : (upd H6 p3 (.dK (mergeK [] (strD l)))) p3 = some (.dK (strD (mergeS [] l))) := by rw [upd_same, ← strD_merge]; rfl
  have n3a := (d5.up s6).ne np3
  have n3 := (b15.trans (But.of s6)).free n3a np3
  have tb3 := (Tb.merge nl).le ll
  generalize upd H6 p3 (.dK (mergeK [] (strD l))) = H7 at s7 e3 ⊢
  have d7 := d5.up s7
  have e7 := s7 _ _ ee
  have b17 := b15.trans (But.of s7)
  clear eD pr lp nl s6 np3 nD ee
  -- some
  refine ⟨fun σ' G => But a H1 G ∧ Dice G a (m + 1360) ∧ G e = some (.lst (ks.map V.str)) ∧ ∃ p mm, σ' = [some (.ref a), some (.ref b), some x, some (.ref e), some (.ref p), none, none, none, none, none, none, none] ∧ G p = some (.dK (strD mm)) ∧ p ≠ a ∧ H1 p = none ∧ Tb mm 20, ?_, ?_⟩
  · refine ⟨_, rfl, a, m + 1321, 2, rfl, d7, by unfold cap; omega, by decide, by decide, fun r2 G b8 d8 _ _ => ⟨rfl, _, rfl, ite2 (fun _ => ?_) (fun _ => ?_)⟩⟩
    · have e8 := b8 _ _ e7 nea
      refine ⟨_, rfl, _, rfl, _, rfl, a, e, m + 1322, ks.map V.str, rfl, d8, by rw [List.length_map]; unfold cap; omega, SqL.of e8, nea, by rw [List.length_map]; omega, fun vs q1 G9 b9 d9 pm nq1 nq1a eq9 => ?_⟩
      obtain ⟨ws2, pw2, rfl⟩ := perm_back pm.symm ks rfl
      have lw2 := pw2.length_eq
      have e9 := b9 _ _ e8 nea
      refine ⟨e, q1, ks.map V.str, ws2.map V.str, rfl, SqL.of e9, SqL.of eq9, by rw [List.length_map, List.length_map, lw2], fun ps p2 G10 lps s10 np2 ep2 hps => ?_⟩
      rw [List.length_map] at lps d9
      have pra := PrA.zip ps ks ws2 lps lw2.symm hps
      refine ⟨p2, ps, strD (ks.zip ws2), rfl, SqL.of ep2, pra.dict, fun p4 np4 => ?_⟩
      have d10 := d9.up s10
      have n4a := d10.ne np4
      have bA := b17.trans (b8.trans (b9.trans (But.of s10)))
      refine ⟨bA.trans (But.of (same_put np4)), (d10.put n4a).le (by omega), same_put np4 _ _ (s10 _ _ e9), p4, mergeS [] (ks.zip ws2), rfl, by rw [upd_same, ← strD_merge]; rfl, n4a, bA.free n4a np4, (Tb.merge fun p hp => ?_).le (by rw [List.length_zip]; omega)⟩
      obtain ⟨h1, h2⟩ := List.of_mem_zip (a := p.1) (b := p.2) hp
      exact ⟨(hk _ h1).2, (hk _ (pw2.mem_iff.mp h2)).2⟩
    · exact ⟨b17.trans b8, d8.le (by omega), b8 _ _ e7 nea, p3, _, rfl, b8 _ _ e3 n3a, n3a, n3, tb3⟩
  rintro σ8 H8 ⟨b8, d8, e8, p, mm, rfl, ep, npa, np, tb⟩
  clear e3 n3a n3 tb3 b17 e7 d7 s7 ll d5 b15 H7 p3
  -- unused
  obtain ⟨k0, kr, rfl⟩ : ∃ k0 kr, ks = k0 :: kr := by
    cases ks with
    | nil => exact absurd lk.2 (Nat.lt_irrefl _)
    | cons k0 kr => exact ⟨k0, kr, rfl⟩
  have nk0 := (hk k0 List.mem_cons_self).2
  refine ⟨_, rfl, e, _, 0, .str k0, rfl, rfl, SqL.of e8, atI_nat (j := 0) rfl, _, rfl, p, _, rfl, DPut.k (k := .inr "unused") ep (small1000 (by rw [strD, List.length_map]; have := tb.ln; omega)), ?_⟩
  rw [strD_put]
  have tb9 : Tb (setS mm "unused" k0) 21 := ⟨setS_all tb.nm ⟨(by decide +kernel : isNm "unused" = true), nk0⟩, setS_keys tb.nd, by have := setS_len mm "unused" k0; have := tb.ln; omega⟩
  generalize setS mm "unused" k0 = mn at tb9
  have b9 : But a H1 (upd H8 p (.dK (strD mn))) := fun z o hz nz => by
    rw [upd_ne (ne_of_none hz np)]
    exact b8 _ _ hz nz
  have d9 := d8.put (o := .dK (strD mn)) npa
  have ep9 : (upd H8 p (.dK (strD mn))) p = some (.dK (strD mn)) := upd_same
  generalize upd H8 p (.dK (strD mn)) = H9 at b9 d9 ep9 ⊢
  clear b8 d8 e8 ep tb
  have ri9 := ri1.but b9 d1 nba
  have dx9 := Dx.ts (Tups.but b9 d1) _ _ (fa_pure f0) dx
  have hf := fun x hx => nmOf_nm tb9 x hx
  have Rd9 : Rd H9 p (.dK (strD mn)) := .inl ep9
  have lL := f0.len
  have cpL : ∀ z, z ∈ L ++ endOf c → Cp (zs.map Prod.snd) 3 z := fun z hz => (f0.all z hz).cp
  have le1 : (endOf c).length ≤ 1 := by cases c <;> simp [endOf]
  -- raw
  obtain ⟨f, t, us, v, rfl, hf1, ht, hus, hv⟩ := dx_fact dx9
  have lu := hus.length
  have cpR := cps_ren hf (fun z hz => cpL z (List.mem_append_left _ hz))
  refine ⟨_, rfl, f, _, 0, .ref t, rfl, rfl, SqT.of hf1, atI_nat (j := 0) rfl, t, rfl, ⟨_, SqT.of ht⟩, fun D nD => ?_⟩
  refine lc_tup (K := K) (a := t) (xs := us) (fun i G => Same H9 G ∧ ∃ ws, G D = some (.lst ws) ∧ DxAll K G ws ((L.take i).map (renC (nmOf mn)))) ⟨same_put nD, [], upd_same, .nil⟩ (fun i G _ h => SqT.of (h.1 _ _ ht)) ?_ ?_
  · rintro i y G hi ⟨sG, ws, eD, dw⟩
    have lt : i < L.length := by
      rw [← lu]
      exact (List.getElem?_eq_some_iff.mp hi).1
    have gdi := List.getElem?_eq_getElem lt
    obtain ⟨v2, hv2, dv2⟩ := hus.get gdi
    rw [hi] at hv2
    cases hv2
    obtain ⟨a1, b1', eab, ta, tb⟩ := cpL _ (List.mem_append_left _ (List.getElem_mem lt))
    rw [eab] at dv2 gdi
    obtain ⟨q0, u, v3, rfl, hq0, du, dv3⟩ := dx_couple (dv2.up sG)
    refine ⟨q0, _, rfl, SqT.of hq0, rfl, _, _, rfl, _, _, rfl, rfl, rfl, (iteT (B := False) ?_ : if true = true then _ else False)⟩
    refine ⟨_, rfl, _, rfl, u, p, a1, mn, rfl, du, rd_up sG Rd9, hf, ta.fm, ta.dp, fun v5 G5 s5 d5' => ?_⟩
    have sb := sG.trans s5
    refine ⟨_, rfl, _, rfl, v3, p, b1', mn, rfl, dv3.up s5, rd_up sb Rd9, hf, tb.fm, tb.dp, fun v6 G7 s6 d6' => ?_⟩
    refine ⟨by show 2 ≤ sizeLine; decide, fun k nk => ?_⟩
    have s7 := same_put (o := .tup [v5, v6]) nk
    have s57 := s5.trans (s6.trans s7)
    have eD7 := s57 _ _ eD
    have ek : (upd G7 k (.tup [v5, v6])) k = some (.tup [v5, v6]) := upd_same
    have d57 := d5'.up (s6.trans s7)
    have d67 := d6'.up s7
    generalize upd G7 k (.tup [v5, v6]) = G8 at s57 eD7 ek d57 d67 ⊢
    have tl := Tups.lst (ys := ws ++ [.ref k]) eD7
    refine ⟨ws, eD7, ?_, fun z oz hz => ?_, ws ++ [.ref k], upd_same, ?_⟩
    · rw [dw.length, List.length_map, List.length_take]
      exact small1000 (by omega)
    · rw [upd_ne (ne_of_none hz nD)]
      exact s57 _ _ (sG _ _ hz)
    · rw [take_map gdi]
      refine DxAll.append (DxAll.ts tl _ _ (cp_pure fun z hz => cps_ren hf (fun z hz => cpL z (List.mem_append_left _ (List.mem_of_mem_take hz))) z hz) (dw.up s57)) (.cons (.tup (tl _ _ ek) (.cons (Dx.ts tl _ _ (pure_formed _ (tm_ren hf ta).fm) d57) (.cons (Dx.ts tl _ _ (pure_formed _ (tm_ren hf tb).fm) d67) .nil))) .nil)
  rintro G7 ⟨s7, ws, eD, dw⟩
  rw [lu, List.take_length] at dw
  have Rd7 := rd_up s7 Rd9
  have hf7 := s7 _ _ hf1
  have hv7 := hv.up s7
  have dx7 := dx9.up s7
  have d7 := d9.up s7
  have b7 := b9.trans (But.of s7)
  have ep7 := s7 _ _ ep9
  have ri7 := ri9.up s7
  clear hf1 ht hus hv dx9 d9 Rd9 ri9 ep9
  -- told
  refine ⟨fun σ' G' => Same G7 G' ∧ ∃ wt, σ' = [some (.ref a), some (.ref b), some (.ref f), some (.ref e), some (.ref p), some (.ref D), some wt, none, none, none, none, none] ∧ Dx K G' wt (renC (nmOf mn) c), ?_, ?_⟩
  · refine ⟨_, rfl, f, _, 1, v, rfl, rfl, SqT.of hf7, atI_nat (j := 1) rfl, rfl, _, rfl, ?_⟩
    by_cases ev : v = .non
    · have ee := (dx_nil hv7).mpr ev
      rw [decide_eq_true ev]
      refine iteT ⟨Same.refl _, _, rfl, ?_⟩
      rw [ee]
      exact .non
    · have ee : c ≠ .none := fun z => ev ((dx_nil hv7).mp z)
      rw [decide_eq_false ev]
      obtain ⟨c1, c2, ec, tc1, tc2, _⟩ := (f0.c.elim (fun z => absurd z ee) id).ex
      rw [ec] at hv7 ⊢
      obtain ⟨q0, u0, v3, rfl, hq0, du, dv3⟩ := dx_couple hv7
      have dC : DxAll K G7 [u0, v3] [c1, c2] := .cons du (.cons dv3 .nil)
      refine iteF ⟨_, rfl, f, _, 1, .ref q0, rfl, rfl, SqT.of hf7, atI_nat (j := 1) rfl, q0, rfl, ⟨_, SqT.of hq0⟩, fun D2 nD2 => ?_⟩
      have tmC : ∀ e, e ∈ [c1, c2] → Tm (zs.map Prod.snd) 3 e := fun e he => by
        rcases List.mem_cons.mp he with rfl | he
        · exact tc1
        · rw [List.mem_singleton.mp he]
          exact tc2
      refine lc_tup (K := K) (a := q0) (xs := [u0, v3]) (fun i G => Same G7 G ∧ ∃ ys : List V, G D2 = some (.lst ys) ∧ ys.length = i ∧ DxAll K G ys (([c1, c2].take i).map (renD (nmOf mn))))
        ⟨same_put nD2, [], upd_same, rfl, .nil⟩ (fun i G _ h => SqT.of (h.1 _ _ hq0)) ?_ ?_
      · rintro i y G hi ⟨s3, ys, eD2, ly, dys⟩
        have lt : i < [c1, c2].length := (List.getElem?_eq_some_iff.mp hi).1
        have gdi := List.getElem?_eq_getElem lt
        obtain ⟨v2, hv2, dv2⟩ := dC.get gdi
        rw [hi] at hv2
        cases hv2
        have ti := tmC _ (List.getElem_mem lt)
        refine ⟨rfl, (iteT (B := False) ?_ : if true = true then _ else False)⟩
        refine ⟨_, rfl, _, rfl, y, p, _, mn, rfl, dv2.up s3, rd_up s3 Rd7, hf, ti.fm, ti.dp, fun v9 G4 s4 dv => ?_⟩
        have eD4 := s4 _ _ eD2
        have tl := Tups.lst (ys := ys ++ [v9]) eD4
        have lt2 : i < 2 := lt
        refine ⟨_, eD4, small1000 (by omega), fun b ob hb => ?_, ys ++ [v9], upd_same, by rw [List.length_append, ly]; rfl, ?_⟩
        · rw [upd_ne (ne_of_none hb nD2)]
          exact s4 _ _ (s3 _ _ hb)
        · rw [take_map gdi]
          refine DxAll.append (DxAll.ts tl _ _ (pure_formedAll _ (formed_take (tm_all tmC) _ (fun d h => ren_formed (nmOf mn) hf d h) i)) (dys.up s4)) (.cons (Dx.ts tl _ _ (pure_formed _ (ren_formed (nmOf mn) hf _ ti.fm)) dv) .nil)
      · rintro G ⟨s3, ys, eD2, ly, dys⟩
        refine ⟨D2, ys, rfl, .inl ⟨SqL.of eD2, fun t2 nt => ?_⟩⟩
        have st := same_put (o := .tup ys) nt
        exact ⟨s3.trans st, _, rfl, .tup upd_same (show DxAll K _ ys [renD (nmOf mn) c1, renD (nmOf mn) c2] from dys.up st)⟩
  rintro σ8 G8 ⟨s8, wt, rfl, dwt⟩
  have eD8 := s8 _ _ eD
  have dw8 := dw.up s8
  have ri8 := ri7.up s8
  have Rd8 := rd_up s8 Rd7
  have d8 := d7.up s8
  have b8 := b7.trans (But.of s8)
  have dx8 := dx7.up s8
  have ep8 := s8 _ _ ep7
  -- len(set(..))
  refine ⟨_, rfl, b, rfl, ⟨_, SqL.of ri8.1⟩, fun D2 nD2 => ?_⟩
  refine lc_list (K := K) (a := b) (xs := zs.map fun z => V.ref z.1) (fun i G => Same G8 G ∧ G D2 = some (.lst ((((zs.take i).map fun z => z.2.1).map (nmOf mn)).map V.str))) ⟨same_put nD2, by rw [upd_same]; simp⟩ (fun i G _ h => SqL.of (h.1 _ _ ri8.1)) ?_ ?_
  · rintro i y G hi ⟨sG, eE⟩
    rw [List.getElem?_map] at hi
    obtain ⟨z, hz, rfl⟩ := Option.map_eq_some_iff.mp hi
    have lt : i < zs.length := (List.getElem?_eq_some_iff.mp hz).1
    have ez := sG _ _ (ri8.2 z (List.mem_of_getElem? hz))
    have RdG := rd_up sG Rd8
    refine ⟨z.1, _, rfl, SqT.of ez, rfl, _, _, rfl, _, _, rfl, rfl, rfl, (iteT (B := False) ?_ : if true = true then _ else False)⟩
    refine ⟨_, rfl, p, rfl, .inl ⟨_, RdG⟩, _, rfl, _, rfl, _, .inl ⟨strD mn, .inr z.2.1, RdG, rfl, rfl⟩, _, eE, ?_, fun k o hk => ?_, ?_⟩
    · rw [List.length_map, List.length_map, List.length_map, List.length_take]
      exact small1000 (by omega)
    · rw [upd_ne (ne_of_none hk nD2)]
      exact sG _ _ hk
    · rw [upd_same, val_strD, look_getD, List.take_add_one, hz, Option.toList_some, List.map_append, List.map_append, List.map_append]
      rfl
  rintro G9 ⟨s9, eE⟩
  rw [List.length_map, List.take_length] at eE
  have ri9 := ri8.up s9
  refine ⟨D2, (zs.map fun z => z.2.1).map (nmOf mn), rfl, SqL.of eE, by rw [List.length_map, List.length_map]; omega, ?_⟩
  refine ⟨_, rfl, b, _, rfl, .inl (SqL.of ri9.1), _, _, rfl, rfl, _, rfl, ?_⟩
  have cl := cnt_lt ((zs.map fun z => z.2.1).map (nmOf mn))
  rw [List.length_map, List.length_map] at cl
  rw [List.length_map]
  have b9' := b8.trans (But.of s9)
  have d9 := d8.up s9
  by_cases inj0 : ((zs.map fun z => z.2.1).map (nmOf mn)).Nodup
  · have nlt : ¬ Kx.cnt ((zs.map fun z => z.2.1).map (nmOf mn)) < zs.length := fun z => cl.mp z inj0
    rw [show decide ((Kx.cnt ((zs.map fun z => z.2.1).map (nmOf mn)) : Int) < (zs.length : Int)) = false from decide_eq_false (fun z => nlt (by omega))]
    have ndn : (zs.map fun z => z.2.1).Nodup := by
      have := gd.nd
      rwa [List.map_map] at this
    rw [nodup_map ndn] at inj0
    have inj : ∀ r, r ∈ zs.map Prod.snd → ∀ t, t ∈ zs.map Prod.snd → nmOf mn r.1 = nmOf mn t.1 → r.1 = t.1 := fun r hr t ht e => by
      obtain ⟨z1, h1, rfl⟩ := List.mem_map.mp hr
      obtain ⟨z2, h2, rfl⟩ := List.mem_map.mp ht
      exact inj0 _ (List.mem_map.mpr ⟨z1, h1, rfl⟩) _ (List.mem_map.mpr ⟨z2, h2, rfl⟩) e
    have F2 := func_ren F inj
    have cpA := cps_ren hf cpL
    have lA : (L ++ endOf c).length ≤ 4 := by
      rw [List.length_append]
      omega
    obtain ⟨_, z1⟩ := cp_size cpA
    have b3 : big 3 = 53 := rfl
    refine iteF ⟨_, rfl, _, rfl, .ref f, .ref p, .tuple [.tuple L, c], rfl, f0.fz (by decide) (by decide) (by decide) (dx8.up s9), .inr (.inr ⟨f0.fact (by decide) F, fa_sz f0 (by decide), p, mn, rfl, s9 _ _ ep8, fun x y h => tb9.nm (x, y) h, tb9.nd, by have := tb9.ln; omega, .inr ⟨?_, couples_of (cp_cns cpA (by decide) F2), ?_, fun d hdd => ?_, fun y r G s dy fo => ?_⟩⟩)⟩
    · have key : ∀ z, z ∈ namesL (sidesD (L ++ endOf c)) → ∃ r, r ∈ zs.map Prod.snd ∧ r.1 = z := fun z hz => by
        obtain ⟨r, hr, rfl⟩ := List.mem_map.mp hz
        obtain ⟨d, hdd, hr⟩ := rows_mem hr
        exact ⟨r, (cp_side cpL d hdd).rw r hr, rfl⟩
      intro x hx y hy exy
      obtain ⟨r, hr, rfl⟩ := key x hx
      obtain ⟨t, ht, rfl⟩ := key y hy
      exact inj r hr t ht exy
    · show szAll ((L ++ endOf c).map (renC (nmOf mn))) ≤ 10000
      rw [List.length_map, b3] at z1
      have : (L ++ endOf c).length * (2 * 53 + 1) ≤ 4 * (2 * 53 + 1) := Nat.mul_le_mul_right _ lA
      omega
    · have td := cp_side cpL d hdd
      have := pre_most 3 d td.fm td.dp
      have : most 3 = 13 := rfl
      omega
    have fo := fo L c rfl
    have ct : ToldD ((zs.map Prod.snd).map (renR (nmOf mn))) 3 (renC (nmOf mn) c) := by
      rcases f0.c with rfl | pc
      · exact .inl rfl
      · obtain ⟨c1, c2, rfl, tc1, tc2, _⟩ := pc.ex
        exact .inr ⟨_, _, rfl, tm_ren hf tc1, tm_ren hf tc2⟩
    have ne : ∀ a b, renC (nmOf mn) c = .tuple [a, b] → a ≠ b := fun a b e => by
      rcases f0.c with rfl | pc
      · cases e
      · obtain ⟨c1, c2, rfl, tc1, tc2, lt⟩ := pc.ex
        simp only [renC, PyData.tuple.injEq, List.cons.injEq, and_true] at e
        obtain ⟨rfl, rfl⟩ := e
        intro z
        have e12 := ren_inj inj c1 c2 tc1.fm tc2.fm tc1.rw tc2.rw z
        rw [e12] at lt
        exact absurd ((tx_lt tc2.fm tc2.fm (rows_in tc2 tc2 F)).mpr lt) (List.lt_irrefl _)
    have s9s := s9.trans s
    refine ⟨_, rfl, _, rfl, wt, D, ws, L.map (renC (nmOf mn)), renC (nmOf mn) c, rfl, dwt.up s9s, SqL.of (s9s _ _ eD8), dw8.up s9s, cp_cns cpR (by decide) F2, by rw [List.length_map]; omega, fun y hy => Nat.le_trans (cp_side cpR y hy).dp (by decide), ct.imp id (fun ⟨a, b, e, ta, tb⟩ => ⟨a, b, e, ta.fm, tb.fm, Nat.le_trans ta.dp (by decide)⟩), fun y2 r2 G' s' dy2 du => ?_⟩
    have er := fo_due F2 fo du ct ne
    subst er
    have ly := due_ly F2 (by decide) du cpR ct ne
    refine ⟨r, r, Dx.dp ly.hd (dy.up s'), Dx.dp ly.hd dy2, ly.lay, ly.lay, Nat.le_trans ly.dp (by decide), ?_⟩
    rw [SeqAt.eqv_refl _ ly.lay]
    exact q _ (b1.trans (b8.trans (But.of (s9s.trans s')))) ((d8.up (s9s.trans s')).le (by omega))
  · have := cl.mpr inj0
    rw [show decide ((Kx.cnt ((zs.map fun z => z.2.1).map (nmOf mn)) : Int) < (zs.length : Int)) = true from decide_eq_true (by omega)]
    exact iteT (q _ (b1.trans b9') (d9.le (by omega)))
end
end K12
/-! A comprehension over the signs of a text. -/
namespace Kx
open PySem PySem.Spec PyProof.Rows L2
/-- a comprehension over the signs of a text -/
theorem lc_signs {z : Str} {g : TG} {tt : TT} {te : TE} {vs : List Nat} {σ : L2.St} {H1 : Hp} {D : Addr} {Qd : Hp → Prop} (Pv : Nat → Hp → Prop) (h0 : Pv 0 (upd H1 D (.lst [])))
    (hs : ∀ i c H, z.cps[i]? = some c → Pv i H → g (.str ⟨#[c]⟩) (wipe σ vs) H fun σ2 H2 => wipe σ2 vs = wipe σ vs ∧ tt σ2 H2 fun b H3 =>
      if b = true then te σ2 H3 fun y H4 => ∃ acc, H4 D = some (.lst acc) ∧ acc.length < sizeLine ∧ Pv (i + 1) (upd H4 D (.lst (acc ++ [y]))) else Pv (i + 1) H3) (hd : ∀ H, Pv z.cps.size H → Qd H) :
    ∃ W : Nat → Nat → Hp → Prop, (∃ m, W 0 m (upd H1 D (.lst []))) ∧ ∀ i m H, W i m H →
      ((Its z).stop i H ∧ Qd H) ∨ ((Its z).go i H ∧ ∃ Nx : Hp → Prop, (∀ H', Nx H' → ∃ m', m' < m ∧ W (i + 1) m' H') ∧ ∀ x H', (Its z).yld i H x H' → g x (wipe σ vs) H' fun σ2 H2 => wipe σ2 vs = wipe σ vs ∧ tt σ2 H2 fun b H3 =>
        if b = true then te σ2 H3 fun y H4 => ∃ acc, H4 D = some (.lst acc) ∧ acc.length < sizeLine ∧ Nx (upd H4 D (.lst (acc ++ [y]))) else Nx H3) := by
  refine ⟨fun i m H => m = z.cps.size - i ∧ i ≤ z.cps.size ∧ Pv i H, ⟨z.cps.size, rfl, Nat.zero_le _, h0⟩, ?_⟩
  rintro i m H ⟨rfl, hi, p⟩
  by_cases lt : i < z.cps.size
  · refine .inr ⟨lt, Pv (i + 1), fun H' p' => ⟨z.cps.size - (i + 1), by omega, rfl, lt, p'⟩, ?_⟩
    rintro x H' ⟨rfl, c, hc, rfl⟩
    exact hs i c _ hc p
  · obtain rfl : i = z.cps.size := by omega
    exact .inl ⟨Nat.le_refl _, hd H p⟩
end Kx
/-! Displays and calls over known data. -/
namespace K12
open PySem PySem.Spec PyProof.Rows L2 Kx
theorem mergeS_new : ∀ (l a : List (Str × Str)), ((a ++ l).map Prod.fst).Nodup → mergeS a l = a ++ l
  | [], a, _ => by simp [mergeS]
  | p :: l, a, h => by
    have hp : (a.any fun q => decide (q.1 = p.1)) = false := by
      rw [List.any_eq_false]
      intro q hq e
      have e := of_decide_eq_true e
      rw [List.map_append, List.nodup_append] at h
      exact h.2.2 _ (List.mem_map.mpr ⟨q, hq, rfl⟩) _ (List.mem_map.mpr ⟨p, List.mem_cons_self, rfl⟩) e
    show mergeS (setS a p.1 p.2) l = _
    rw [show setS a p.1 p.2 = a ++ [p] by unfold setS; rw [hp]; rfl, mergeS_new l (a ++ [p]) (by simpa using h)]
    simp
/-- te makes d, from the heap H0 on -/
def MkH (K : PySem.W.Frag) (σ : L2.St) (H0 : Hp) (te : TE) (d : PyData) : Prop := ∀ (H : Hp) (Q : VK), Same H0 H → (∀ x H', Same H H' → Dx K H' x d → Q x H') → te σ H Q
def MkHs (K : PySem.W.Frag) (σ : L2.St) (H0 : Hp) (ta : TA) (ds : List PyData) : Prop := ∀ (H : Hp) (Q : List V → Hp → Prop), Same H0 H → (∀ xs H', Same H H' → DxAll K H' xs ds → Q xs H') → ta σ H Q
section
variable {K : PySem.W.Frag} {σ : L2.St} {H0 : Hp} {te t1 t2 t3 : TE} {ta : TA} {d e c : PyData} {ds : List PyData} {C : Addr} {E : XK}
theorem mh_var {i : Nat} {x : V} (h : σ[i]? = some (some x)) (dx : Dx K H0 x d) : MkH K σ H0 (tVar i) d := fun H Q s q => ⟨_, h, q _ H (Same.refl H) (dx.up s)⟩
theorem mh_str (x : Str) : MkH K σ H0 (tC (.str x)) (.str x) := fun H Q _ q => q _ H (Same.refl H) (.str x)
theorem mh_nil : MkHs K σ H0 tNil [] := fun H Q _ q => q _ H (Same.refl H) .nil
theorem mh_cons (h1 : MkH K σ H0 te d) (h2 : MkHs K σ H0 ta ds) : MkHs K σ H0 (tCons te ta) (d :: ds) := fun H Q s q =>
  h1 H _ s fun x H1 s1 d1 => h2 H1 _ (s.trans s1) fun xs H2 s2 d2 => q _ H2 (s1.trans s2) (.cons (d1.up s2) d2)
theorem mh_tup (h : MkHs K σ H0 ta ds) (few : ds.length ≤ 100) : MkH K σ H0 (tTup ta) (.tuple ds) := fun H Q s q =>
  h H _ s fun xs H1 s1 d1 => ⟨by rw [d1.length]; exact Nat.le_of_lt (small1000 (by omega)), fun p np => q _ _ (s1.trans (same_put np)) (.tup upd_same (d1.up (same_put np)))⟩
theorem mh_lst (h : MkHs K σ H0 ta ds) (few : ds.length ≤ 100) : MkH K σ H0 (tLst ta) (.list ds) := fun H Q s q =>
  h H _ s fun xs H1 s1 d1 => ⟨by rw [d1.length]; exact Nat.le_of_lt (small1000 (by omega)), fun p np => q _ _ (s1.trans (same_put np)) (.lst upd_same (d1.up (same_put np)))⟩
theorem asg_mh {j : Nat} {rest : TS} {D : Ends} (m : MkH K σ H0 te d) (q : ∀ x H', Same H0 H' → Dx K H' x d → rest D (σ.set j (some x)) H') : tSeq (tAsg te (gName j)) rest D σ H0 := m H0 _ (Same.refl H0) q
theorem asg1_mh {j : Nat} {D : Ends} (m : MkH K σ H0 te d) (q : ∀ x H', Same H0 H' → Dx K H' x d → D.nx (σ.set j (some x)) H') : tAsg te (gName j) D σ H0 := m H0 _ (Same.refl H0) q
theorem tPairs_str {H : Hp} {Q : List (V × V) → Hp → Prop} : ∀ m : List (Str × Str), Q (m.map fun p => (V.str p.1, V.str p.2)) H → tPairs (m.map fun p => (tC (.str p.1), tC (.str p.2))) σ H Q
  | [], h => h
  | p :: m, h => tPairs_str (Q := fun ps H3 => Q ((V.str p.1, V.str p.2) :: ps) H3) m h
/-- a dict display of texts -/
theorem disp_str {H : Hp} {Q : VK} (m : List (Str × Str)) (nd : (m.map Prod.fst).Nodup) (l : m.length ≤ 15) (q : ∀ p H', Same H H' → H p = none → H' p = some (.dK (strD m)) → Q (.ref p) H') : tDisp (m.map fun p => (tC (.str p.1), tC (.str p.2))) σ H Q := fun p np => by
  refine tPairs_str m ⟨upd_same, strD m, by rw [strD, List.map_map]; rfl, by rw [strD, List.length_map]; exact l, ?_⟩
  rw [show mergeK [] (strD m) = strD m from (strD_merge _ []).trans (by rw [mergeS_new _ _ (by simpa using nd)]; rfl)]
  refine q p _ (fun b o h => ?_) np upd_same
  rw [upd_ne (ne_of_none h np), upd_ne (ne_of_none h np)]
  exact h
theorem kwD_strD : ∀ m : List (Str × Str), kwD (m.map Prod.fst) (m.map fun p => V.str p.2) = strD m
  | [] => rfl
  | p :: m => by
    have ih := kwD_strD m
    rw [kwD] at ih ⊢
    rw [List.map_cons, List.map_cons, List.zip_cons_cons, List.map_cons, ih]
    rfl
end
/-- pairs of terms, compared -/
def eqP : PyData → PyData → Bool
  | .tuple [a, b], .tuple [c, d] => formedD a && formedD b && PyData.eqv a c && PyData.eqv b d
  | _, _ => false
theorem eqP_eq : ∀ {x y : PyData}, eqP x y = true → x = y := by
  intro x y h
  unfold eqP at h
  split at h
  · simp only [Bool.and_eq_true] at h
    obtain ⟨⟨⟨fa, fb⟩, e1⟩, e2⟩ := h
    rw [(eqv_iff fa).mp e1, (eqv_iff fb).mp e2]
  · cases h
def pwB : List PyData → Bool
  | [] => true
  | x :: l => l.all (fun y => PySem.W.dataLt x y) && pwB l
theorem pwB_ok : ∀ {l : List PyData}, pwB l = true → l.Pairwise ltR
  | [], _ => .nil
  | x :: l, h => by
    rw [pwB, Bool.and_eq_true, List.all_eq_true] at h
    exact .cons (fun y hy => h.1 y hy) (pwB_ok h.2)
def okP (z y : PyData) : Bool := match z, y with
  | .tuple [a, b], .tuple [c, d] => decide (tx a < tx b) && (eqP (.tuple [a, b]) (.tuple [c, d]) || eqP (.tuple [a, b]) (.tuple [d, c]))
  | _, _ => false
def inP (L : List PyData) (y : PyData) : Bool := match y with
  | .tuple [c, d] => (!decide (tx c < tx d) || L.any (fun z => eqP (.tuple [c, d]) z)) && (!decide (tx d < tx c) || L.any (fun z => eqP (.tuple [d, c]) z))
  | _ => false
def prsB (ds L : List PyData) : Bool := L.all (fun z => ds.any fun y => okP z y) && (ds.all (fun y => inP L y) && pwB L)
theorem any_eqP {L : List PyData} {y : PyData} (h : (L.any fun z => eqP y z) = true) : y ∈ L := by
  obtain ⟨z, hz, e⟩ := List.any_eq_true.mp h
  rw [eqP_eq e]
  exact hz
theorem prsB_ok {ds L : List PyData} (h : prsB ds L = true) : Prs ds L := by
  rw [prsB, Bool.and_eq_true, Bool.and_eq_true] at h
  obtain ⟨h1, h2, h3⟩ := h
  refine ⟨fun z => ⟨fun hz => ?_, ?_⟩, pwB_ok h3⟩
  · obtain ⟨y, hy, o⟩ := List.any_eq_true.mp (List.all_eq_true.mp h1 z hz)
    unfold okP at o
    split at o
    · rename_i a b c d
      rw [Bool.and_eq_true, Bool.or_eq_true] at o
      refine ⟨a, b, rfl, of_decide_eq_true o.1, ?_⟩
      rcases o.2 with e | e
      · exact .inl (by rw [eqP_eq e]; exact hy)
      · have e := eqP_eq e
        simp only [PyData.tuple.injEq, List.cons.injEq, and_true] at e
        obtain ⟨rfl, rfl⟩ := e
        exact .inr hy
    · cases o
  · rintro ⟨a, b, rfl, l, m | m⟩
    · have o := List.all_eq_true.mp h2 _ m
      simp only [inP, Bool.and_eq_true, Bool.or_eq_true, Bool.not_eq_true', decide_eq_false_iff_not] at o
      exact any_eqP (o.1.resolve_left fun z => z l)
    · have o := List.all_eq_true.mp h2 _ m
      simp only [inP, Bool.and_eq_true, Bool.or_eq_true, Bool.not_eq_true', decide_eq_false_iff_not] at o
      exact any_eqP (o.2.resolve_left fun z => z l)
def tlB (told e : PyData) : Bool := match told, e with
  | .none, .none => true
  | .tuple [a, b], .tuple [c, d] => (decide (tx a < tx b) && eqP (.tuple [a, b]) (.tuple [c, d])) || (decide (tx b < tx a) && eqP (.tuple [b, a]) (.tuple [c, d]))
  | _, _ => false
def foB (ds : List PyData) (told : PyData) (L : List PyData) (e : PyData) : Bool := prsB ds L && tlB told e
theorem foB_ok {ds L : List PyData} {told e : PyData} (h : foB ds told L e = true) : FoD ds told (.tuple [.tuple L, e]) := by
  rw [foB, Bool.and_eq_true] at h
  obtain ⟨h1, h2⟩ := h
  refine ⟨L, prsB_ok h1, ?_⟩
  unfold tlB at h2
  split at h2
  · exact .inl ⟨rfl, rfl⟩
  · rename_i a b c d
    simp only [Bool.or_eq_true, Bool.and_eq_true, decide_eq_true_eq] at h2
    refine .inr ⟨a, b, rfl, .inr ?_⟩
    rcases h2 with ⟨l, e⟩ | ⟨l, e⟩
    · exact .inl ⟨l, by rw [eqP_eq e]⟩
    · exact .inr ⟨l, by rw [eqP_eq e]⟩
  · cases h2
def cutL (L M : List PyData) (c : PyData) : List PyData := L ++ M.filter fun z => !PyData.eqv z c
/-- cut gives a fact -/
theorem cut_some {L M N : List PyData} {c e e2 : PyData} (h : ((M.any fun z => eqP c z) && foB (cutL L M c) e N e2 && (match e2 with | .tuple [_, _] => eqP e2 e2 && N.all (fun z => !eqP e2 z) | .none => true | _ => false)) = true) : CutD L c M e (.tuple [.tuple N, e2]) := by
  rw [Bool.and_eq_true, Bool.and_eq_true] at h
  obtain ⟨⟨h1, h2⟩, h3⟩ := h
  refine .inr ⟨fun z => ?_, any_eqP h1, N, e2, foB_ok h2, .inr ⟨fun ⟨n, m⟩ => ?_, rfl⟩⟩
  · rw [z] at h1
    obtain ⟨y, _, e⟩ := List.any_eq_true.mp h1
    cases e
  · split at h3
    · rw [Bool.and_eq_true] at h3
      have := List.all_eq_true.mp h3.2 _ m
      rw [h3.1] at this
      cases this
    · exact n rfl
    · cases h3
/-- cut gives None, as it would say nothing -/
theorem cut_idle {L M N : List PyData} {c e e2 : PyData} (h : ((M.any fun z => eqP c z) && foB (cutL L M c) e N e2 && (N.any fun z => eqP e2 z)) = true) : CutD L c M e .none := by
  rw [Bool.and_eq_true, Bool.and_eq_true] at h
  obtain ⟨⟨h1, h2⟩, h3⟩ := h
  have nn : ∀ {d : PyData} {L : List PyData}, (L.any fun z => eqP d z) = true → d ≠ .none := fun {d L} h z => by
    rw [z] at h
    obtain ⟨y, _, e⟩ := List.any_eq_true.mp h
    cases e
  exact .inr ⟨nn h1, any_eqP h1, N, e2, foB_ok h2, .inl ⟨nn h3, any_eqP h3, rfl⟩⟩
def smF (L : List PyData) (c : PyData) : Bool := factD (.tuple [.tuple L, c]) && shortD (.tuple [.tuple L, c]) && decide (szD (.tuple [.tuple L, c]) ≤ 1000) && decide (L.length ≤ 100)
theorem smF_ok {L : List PyData} {c : PyData} {K : PySem.W.Frag} {H : Hp} {x : V} (h : smF L c = true) (dx : Dx K H x (.tuple [.tuple L, c])) : Fz K H x (.tuple [.tuple L, c]) := by
  simp only [smF, Bool.and_eq_true, decide_eq_true_eq] at h
  refine ⟨dx, h.1.1.2, by omega, fun ps e he => ?_⟩
  simp only [PyData.tuple.injEq, List.cons.injEq, and_true] at he
  rw [← he.1]
  exact h.2
theorem smF_f {L : List PyData} {c : PyData} (h : smF L c = true) : factD (.tuple [.tuple L, c]) = true ∧ szD (.tuple [.tuple L, c]) ≤ 1000 := by
  simp only [smF, Bool.and_eq_true, decide_eq_true_eq] at h
  exact ⟨h.1.1.1, h.1.2⟩
def ChOk (L : List PyData) (c eo en : PyData) : Bool := smF L c && (termD eo && termD en) && shortD eo && shortD en && decide (szD eo ≤ 1000) && decide (szD en ≤ 1000) && decide (szAll ((L ++ endOf c).map (putC eo en)) ≤ 10000) && shortAll ((L ++ endOf c).map (putC eo en)) && (sidesD (L ++ endOf c)).all (fun a => decide ((preD a).length + (preD eo).length ≤ 100000)) && couplesD ((L ++ endOf c).map (putC eo en))
structure FrOk (m : List (Str × Str)) (L : List PyData) (c : PyData) : Prop where
  sm : smF L c = true
  nm : m.all (fun p => isNm p.1 && isNm p.2) = true
  nd : (m.map Prod.fst).Nodup
  fw : m.length ≤ 15
  ap : ApL m (namesL (sidesD (L ++ endOf c)))
  cp : couplesD ((L ++ endOf c).map (renC (nmOf m))) = true
  sz : szAll ((L ++ endOf c).map (renC (nmOf m))) ≤ 10000
  pr : (sidesD (L ++ endOf c)).all (fun a => decide ((preD a).length ≤ 100000)) = true
section
variable {P : Program} {w : World} {K : PySem.W.Frag} {σ : L2.St} {H0 : Hp} {te t1 t2 t3 : TE} {ta : TA} {c e r eo en : PyData} {L M N : List PyData} {CF CT CN CO : Addr} {E : XK}
theorem mh_cut (h1 : MkH K σ H0 t1 (.tuple [.tuple L, c])) (h2 : MkH K σ H0 t2 (.tuple [.tuple M, e])) (ok : (smF L c && smF M e && couplesD ((L ++ endOf c) ++ (M ++ endOf e))) = true) (cr : CutD L c M e r) : MkH K σ H0 (tCall (spCut K) [] E (tCons t1 (tCons t2 tNil))) r := fun H Q s q => by
  simp only [Bool.and_eq_true] at ok
  obtain ⟨⟨k1, k2⟩, k3⟩ := ok
  refine (mh_cons h1 (mh_cons h2 mh_nil)) H _ s fun xs H1 s1 dxs => ?_
  cases dxs with
  | @cons x1 r1 _ _ d1 dxs =>
  cases dxs with
  | @cons x2 r2 _ _ d2 dxs =>
  cases dxs
  refine ⟨x1, x2, L, M, c, e, rfl, smF_ok k1 d1, smF_ok k2 d2, (smF_f k1).1, (smF_f k2).1, k3, fun z r' H' s' dz cr' => ?_⟩
  rw [cr'.uniq cr] at dz
  exact q z H' (s1.trans s') dz
theorem mh_ch (h1 : MkH K σ H0 t1 (.tuple [.tuple L, c])) (h2 : MkH K σ H0 t2 eo) (h3 : MkH K σ H0 t3 en) (ok : ChOk L c eo en = true) (fo : FoD (L.map (putC eo en)) (putC eo en c) r) : MkH K σ H0 (tCall (spCh K CF CT) [] E (tCons t1 (tCons t2 (tCons t3 tNil)))) r := fun H Q s q => by
  simp only [ChOk, Bool.and_eq_true, decide_eq_true_eq] at ok
  obtain ⟨⟨⟨⟨⟨⟨⟨⟨⟨k1, k2⟩, k3⟩, k4⟩, k5⟩, k6⟩, k7⟩, k8⟩, k9⟩, k10⟩ := ok
  refine (mh_cons h1 (mh_cons h2 (mh_cons h3 mh_nil))) H _ s fun xs H1 s1 dxs => ?_
  cases dxs with
  | @cons x1 r1 _ _ d1 dxs =>
  cases dxs with
  | @cons x2 r2 _ _ d2 dxs =>
  cases dxs with
  | @cons x3 r3 _ _ d3 dxs =>
  cases dxs
  refine ⟨x1, x2, x3, .tuple [.tuple L, c], eo, en, rfl, smF_ok k1 d1, ⟨d2, k3, by omega⟩, ⟨d3, k4, by omega⟩, .inr (.inr ⟨(smF_f k1).1, by rw [k2.1, k2.2]; rfl, k7, k8, fun a ha => of_decide_eq_true (List.all_eq_true.mp k9 a ha), .inr ⟨k10, fun y r' H' s' dy fo' => ?_⟩⟩)⟩
  rw [(fo' L c rfl).uniq fo fun _ _ => Iff.rfl] at dy
  exact q y H' (s1.trans s') dy
theorem fr_of {H : Hp} {Q : VK} {x : V} {p : Addr} {m : List (Str × Str)} (ok : FrOk m L c) (dx : Dx K H x (.tuple [.tuple L, c])) (hp : H p = some (.dK (strD m))) (fo : FoD (L.map (renC (nmOf m))) (renC (nmOf m) c) r) (q : ∀ v H', Same H H' → Dx K H' v r → Q v H') : spFr P w K CF CN CO [x, .ref p] H Q E :=
  ⟨x, .ref p, .tuple [.tuple L, c], rfl, smF_ok ok.sm dx, .inr (.inr ⟨(smF_f ok.sm).1, (smF_f ok.sm).2, p, m, rfl, hp, fun x y h => by have := List.all_eq_true.mp ok.nm _ h; simpa using this, ok.nd, by have := ok.fw; omega, .inr ⟨ok.ap, ok.cp, ok.sz, fun a ha => of_decide_eq_true (List.all_eq_true.mp ok.pr a ha), fun y r' H' s' dy fo' => by
    rw [(fo' L c rfl).uniq fo fun _ _ => Iff.rfl] at dy
    exact q y H' s' dy⟩⟩)⟩
theorem mh_fr (m : List (Str × Str)) (h1 : MkH K σ H0 t1 (.tuple [.tuple L, c])) (ok : FrOk m L c) (fo : FoD (L.map (renC (nmOf m))) (renC (nmOf m) c) r) : MkH K σ H0 (tCall (spFr P w K CF CN CO) [] E (tCons t1 (tCons (tDisp (m.map fun p => (tC (.str p.1), tC (.str p.2)))) tNil))) r := fun H Q s q =>
  h1 H _ s fun x H1 s1 dx => disp_str m ok.nd ok.fw fun p H2 s2 _ ep => fr_of ok (dx.up s2) ep fo fun v H' s' dv => q v H' (s1.trans (s2.trans s')) dv
theorem mh_frk (m : List (Str × Str)) {ks : List Str} {tk : TA} (hk : ∀ H Q, Q (m.map fun p => V.str p.2) H → tk σ H Q) (ek : m.map Prod.fst = ks) (h1 : MkH K σ H0 t1 (.tuple [.tuple L, c])) (ok : FrOk m L c) (fo : FoD (L.map (renC (nmOf m))) (renC (nmOf m) c) r) :
    MkH K σ H0 (fun σ H Q => tCons t1 tNil σ H fun vs H1 => tk σ H1 fun zs H2 => ∃ v, vs = [v] ∧ zs.length = ks.length ∧ ∀ d, H2 d = none → spFr P w K CF CN CO [v, .ref d] (upd H2 d (.dK (kwD ks zs))) Q E) r := fun H Q s q =>
  h1 H _ s fun x H1 s1 dx => hk H1 _ ⟨x, rfl, by rw [← ek, List.length_map, List.length_map], fun p np => fr_of ok (dx.up (same_put np)) (by
    rw [upd_same, ← ek]
    rw [kwD_strD]) fo fun v H' s' dv => q v H' (s1.trans ((same_put np).trans s')) dv⟩
theorem mh_non : MkH K σ H0 (tC .non) .none := fun H Q _ q => q _ H (Same.refl H) .non
/-- an item of a tuple kept -/
theorem mh_ix {i j : Nat} {x : V} {d : PyData} {ds : List PyData} (h : σ[i]? = some (some x)) (dx : Dx K H0 x (.tuple ds)) (hd : ds[j]? = some d) : MkH K σ H0 (tOp (rIxT K) (tVar i) (tC (.int (j : Int)))) d := fun H Q s q => by
  cases dx.up s with
  | @tup a xs _ ha hs =>
  obtain ⟨v, hv, dv⟩ := hs.get hd
  exact ⟨_, h, a, xs, (j : Int), v, rfl, rfl, SqT.of ha, atI_nat hv, q v H (Same.refl H) dv⟩
end
end K12
/-! The data known of the law. -/
namespace K12
open PySem PySem.Spec PyProof.Rows L2 Kx
def t0 (x : Str) : PyData := .tuple [.str x]
def p2 (a b : PyData) : PyData := .tuple [a, b]
def idleL : List PyData := [p2 (t0 "a") (t0 "c"), p2 (t0 "b") (t0 "d")]
def bd : PyData := p2 (t0 "b") (t0 "d")
def bz : PyData := p2 (t0 "b") (t0 "z")
def signs : List Str := ("bcdefghijklm" : Str).cps.toList.map fun c => ⟨#[c]⟩
def wideL : List PyData := signs.map fun s => p2 (t0 "a") (t0 s)
def zL : List PyData := signs.map fun s => p2 (t0 s) (t0 "z")
def fT (x : PyData) : PyData := .tuple [.str "f", x]
theorem k1o : (smF idleL bd && smF [bd] (p2 (t0 "a") (t0 "b")) && couplesD ((idleL ++ endOf bd) ++ ([bd] ++ endOf (p2 (t0 "a") (t0 "b"))))) = true := by decide +kernel
theorem k1 : CutD idleL bd [bd] (p2 (t0 "a") (t0 "b")) (.tuple [.tuple idleL, p2 (t0 "a") (t0 "b")]) := cut_some (by decide +kernel)
theorem k2o : (smF [] bd && smF [bd] .none && couplesD (([] ++ endOf bd) ++ ([bd] ++ endOf .none))) = true := by decide +kernel
theorem k2 : CutD [] bd [bd] .none (.tuple [.tuple [], .none]) := cut_some (by decide +kernel)
theorem k3o : (smF [] .none && smF [bd] .none && couplesD (([] ++ endOf .none) ++ ([bd] ++ endOf .none))) = true := by decide +kernel
theorem k3 : CutD [] .none [bd] .none .none := .inl ⟨.inl rfl, rfl⟩
theorem k4o : (smF [p2 (t0 "a") (t0 "c")] bd && smF [bd] (p2 (t0 "a") (t0 "c")) && couplesD (([p2 (t0 "a") (t0 "c")] ++ endOf bd) ++ ([bd] ++ endOf (p2 (t0 "a") (t0 "c"))))) = true := by decide +kernel
theorem k4 : CutD [p2 (t0 "a") (t0 "c")] bd [bd] (p2 (t0 "a") (t0 "c")) .none := cut_idle (N := [p2 (t0 "a") (t0 "c")]) (e2 := p2 (t0 "a") (t0 "c")) (by decide +kernel)
def m5 : List (Str × Str) := [("a", "c"), ("c", "a"), ("f", "b"), ("b", "f")]
theorem k5o : FrOk m5 [p2 (t0 "a") (t0 "c")] (p2 (t0 "b") (fT (t0 "a"))) := ⟨by decide +kernel, by decide +kernel, by decide +kernel, by decide, by unfold ApL; decide +kernel, by decide +kernel, by decide +kernel, by decide +kernel⟩
theorem k5 : FoD ([p2 (t0 "a") (t0 "c")].map (renC (nmOf m5))) (renC (nmOf m5) (p2 (t0 "b") (fT (t0 "a")))) (.tuple [.tuple [p2 (t0 "a") (t0 "c")], p2 (.tuple [.str "b", t0 "c"]) (t0 "f")]) := foB_ok (by decide +kernel)
theorem k6o : (smF wideL bz && smF [p2 (t0 "a") (t0 "b"), bz] .none && couplesD ((wideL ++ endOf bz) ++ ([p2 (t0 "a") (t0 "b"), bz] ++ endOf .none))) = true := by decide +kernel
theorem k6 : CutD wideL bz [p2 (t0 "a") (t0 "b"), bz] .none (.tuple [.tuple wideL, .none]) := cut_some (by decide +kernel)
theorem k7o : ChOk wideL bz (t0 "a") (t0 "z") = true := by decide +kernel
theorem k7 : FoD (wideL.map (putC (t0 "a") (t0 "z"))) (putC (t0 "a") (t0 "z") bz) (.tuple [.tuple zL, bz]) := foB_ok (by decide +kernel)
def m8 : List (Str × Str) := [("fact", "names"), ("names", "fact"), ("a", "term"), ("self", "b")]
def fn : PyData := p2 (t0 "fact") (t0 "names")
theorem k8o : FrOk m8 [fn] (p2 (t0 "a") (fT (t0 "fact"))) := ⟨by decide +kernel, by decide +kernel, by decide +kernel, by decide, by unfold ApL; decide +kernel, by decide +kernel, by decide +kernel, by decide +kernel⟩
theorem k8 : FoD ([fn].map (renC (nmOf m8))) (renC (nmOf m8) (p2 (t0 "a") (fT (t0 "fact")))) (.tuple [.tuple [fn], p2 (fT (t0 "names")) (t0 "term")]) := foB_ok (by decide +kernel)
/-- what the layer wants of data that are compared -/
def lyB (d : PyData) : Bool := d.canLay0 && !d.hasDict && decide (d.depth ≤ 64) && pureD d
theorem lyB_ok {d : PyData} (h : lyB d = true) : Ly d := by
  simp only [lyB, Bool.and_eq_true, Bool.not_eq_true', decide_eq_true_eq] at h
  exact ⟨h.1.1.1, h.1.1.2, h.1.2, h.2⟩
section
variable {K : PySem.W.Frag} {σ : L2.St} {H0 : Hp} {t1 t2 te : TE} {d : PyData}
theorem seq_mh {g : TG} {rest : TS} {D : Ends} (m : MkH K σ H0 te d) (q : ∀ x H', Same H0 H' → Dx K H' x d → g x σ H' (fun σ2 H2 => rest D σ2 H2)) : tSeq (tAsg te g) rest D σ H0 := m H0 _ (Same.refl H0) q
theorem ne_mh {A rest : TS} {D : Ends} (m1 : MkH K σ H0 t1 d) (m2 : MkH K σ H0 t2 d) (ly : lyB d = true) (q : ∀ H', Same H0 H' → rest D σ H') : tSeq (tIfS (tTest (tOp (rNeF K) t1 t2)) A tNext) rest D σ H0 :=
  m1 H0 _ (Same.refl H0) fun x H1 s1 d1 => m2 H1 _ s1 fun y H2 s2 d2 => by
    have l := lyB_ok ly
    refine ⟨d, d, Dx.dp l.hd (d1.up s2), Dx.dp l.hd d2, l.lay, l.lay, Nat.le_trans l.dp (by decide), _, rfl, ?_⟩
    rw [SeqAt.eqv_refl _ l.lay]
    exact q _ (s1.trans s2)
def rNz : R2 := fun x y H Q => y = .non ∧ Q (.bl (!decide (x = .non))) H
theorem nn_mh {A rest : TS} {D : Ends} (m1 : MkH K σ H0 t1 .none) (q : ∀ H', Same H0 H' → rest D σ H') : tSeq (tIfS (tTest (tOp rNz t1 (tC .non))) A tNext) rest D σ H0 :=
  m1 H0 _ (Same.refl H0) fun x H1 s1 d1 => by
    cases d1
    exact ⟨rfl, _, rfl, q _ s1⟩
theorem eq_mh {D : Ends} (m1 : MkH K σ H0 t1 d) (m2 : MkH K σ H0 t2 d) (ly : lyB d = true) (q : ∀ H', Same H0 H' → D.rt (.bl true) H') : tRet (tOp (rEqF K) t1 t2) D σ H0 :=
  m1 H0 _ (Same.refl H0) fun x H1 s1 d1 => m2 H1 _ s1 fun y H2 s2 d2 => by
    have l := lyB_ok ly
    refine ⟨d, d, Dx.dp l.hd (d1.up s2), Dx.dp l.hd d2, l.lay, l.lay, Nat.le_trans l.dp (by decide), ?_⟩
    rw [SeqAt.eqv_refl _ l.lay]
    exact q _ (s1.trans s2)
end
end K12
/-! The law of k12. -/
namespace K12
open PySem PySem.Spec PyProof.Rows L2 Kx
section
variable {P : Program} {w : World} {K : PySem.W.Frag} {mg : Str → Option Value} {base : Heap}
def spLaw (K : PySem.W.Frag) : Sp := fun vs H Q _ => ∃ (a : Addr) (ns : List Int), vs = [.ref a] ∧ SqL K H a (ns.map V.int) ∧ ∀ H', Q (.bl true) H'
theorem ok_law (T : Tx K mg) : FnOk P w K mg base CX0 20 T.alaw T.dlaw ["script"] (spLaw K) := by
  have nd := sc_law.nd
  have G_dice := ok_dice (P := P) (w := w) (base := base) T
  have G_names := ok_names (P := P) (w := w) (base := base) T
  have G_cut_right := ok_cr (P := P) (w := w) (base := base) T
  have G_changed_right := ok_cg (P := P) (w := w) (base := base) T
  have G_renamed_right := ok_rr (P := P) (w := w) (base := base) T
  have GC := ok_cut (P := P) (w := w) (base := base) T
  have GH := ok_ch (P := P) (w := w) (base := base) T
  have GR := ok_fr (P := P) (w := w) (base := base) T
  have GK := ok_frn4 (P := P) (w := w) (base := base) T
  refine T.flaw.ok sc_law (fun vs H Q E h => ?_) (fun cdv A outer s H vs Q E hr h => ?_)
  · obtain ⟨a, ns, rfl, _⟩ := h
    rfl
  obtain ⟨a, ns, rfl, hS, q⟩ := h
  refine ⟨_, (pss_cons (ps_for PassesOwn.never rfl (pi_range1 (by rfl) T.b_range (pa_cons (pe_callB (call_max2 rfl) (by rfl) T.b_max (by decide +kernel) (pa_cons pe_int (pa_cons (pe_callB (call_min2 rfl) (by rfl) T.b_min (by decide +kernel) (pa_cons pe_int (pa_cons (pe_callB call_len_seq (by rfl) T.b_len (by decide +kernel) (pa_cons (pv 0) pa_nil)) pa_nil))) pa_nil))) pa_nil)) (pg_name (i := 1) nd rfl (.inl rfl)) (pss_cons (ps_set (i := 2) nd rfl (.inl rfl) (pe_call G_dice (hr.mono (by omega)) (by rfl) T.g_law_dice T.f_law_dice.kp T.n_law_dice .nil pass0 (pa_cons (pv 0) (pa_cons (pv 1) pa_nil))))
      (pss_cons (ps_set (i := 3) nd rfl (.inl rfl) (pe_call G_names (hr.mono (by omega)) (by rfl) T.g_law_names T.f_law_names.kp T.n_law_names .nil pass0 (pa_cons (pv 2) (pa_cons pe_int pa_nil))))
      (pss_one (ps_for PassesOwn.never rfl (pi_range1 (by rfl) T.b_range (pa_cons pe_int pa_nil)) (pg_name (i := 4) nd rfl (.inl rfl)) (pss_cons (ps_if (PW.pt (pw_or (pt_not (pt_val (pe_call G_cut_right (hr.mono (by omega)) (by rfl) T.g_law_cut_right T.f_law_cut_right.kp T.n_law_cut_right .nil pass0 (pa_cons (pv 2) (pa_cons (pv 3) pa_nil))))) (pw_or1 (pt_not (pt_val (pe_call G_changed_right (hr.mono (by omega)) (by rfl) T.g_law_changed_right T.f_law_changed_right.kp T.n_law_changed_right .nil pass0 (pa_cons (pv 2) (pa_cons (pv 3) pa_nil)))))))) (pss_one (ps_ret pe_bl)) pss_nil)
      (pss_one (ps_if (pt_not (pt_val (pe_call G_renamed_right (hr.mono (by omega)) (by rfl) T.g_law_renamed_right T.f_law_renamed_right.kp T.n_law_renamed_right .nil pass0 (pa_cons (pv 2) (pa_cons (pv 3) pa_nil))))) (pss_one (ps_ret pe_bl)) pss_nil))))))))
      (pss_cons (ps_asg (pe_tup (pa_cons (pe_tup (pa_cons pe_str pa_nil)) (pa_cons (pe_tup (pa_cons pe_str pa_nil)) (pa_cons (pe_tup (pa_cons pe_str pa_nil)) (pa_cons (pe_tup (pa_cons pe_str pa_nil)) pa_nil))))) (pg_tup rfl (pgs_cons (pg_name (i := 5) nd rfl (.inr rfl)) (pgs_cons (pg_name (i := 6) nd rfl (.inl rfl)) (pgs_cons (pg_name (i := 7) nd rfl (.inl rfl)) (pgs_cons (pg_name (i := 8) nd rfl (.inl rfl)) pgs_nil))))))
      (pss_cons (ps_set (i := 9) nd rfl (.inl rfl) (pe_tup (pa_cons (pe_tup (pa_cons (pe_tup (pa_cons (pv 5) (pa_cons (pv 7) pa_nil))) (pa_cons (pe_tup (pa_cons (pv 6) (pa_cons (pv 8) pa_nil))) pa_nil))) (pa_cons (pe_tup (pa_cons (pv 6) (pa_cons (pv 8) pa_nil))) pa_nil))))
      (pss_cons (ps_if (pt_cmpR (op_neF (room200 hr)) (pe_call (E := E0) GC (hr.mono (by omega)) (by rfl) T.gcut T.fcut.kp T.ncut .nil (passes_call takes00 (fun _ _ _ _ h => h)) (pa_cons (pv 9) (pa_cons (pe_tup (pa_cons (pe_tup (pa_cons (pe_tup (pa_cons (pv 6) (pa_cons (pv 8) pa_nil))) pa_nil)) (pa_cons (pe_tup (pa_cons (pv 5) (pa_cons (pv 6) pa_nil))) pa_nil))) pa_nil))) (pe_tup (pa_cons (pe_ix ix_tup (pv 9) pe_int (fun _ _ => rfl)) (pa_cons (pe_tup (pa_cons (pv 5) (pa_cons (pv 6) pa_nil))) pa_nil))) (nomark _)) (pss_one (ps_ret pe_bl)) pss_nil)
      (pss_cons (ps_if (pt_cmpR (op_neF (room200 hr)) (pe_call (E := E0) GC (hr.mono (by omega)) (by rfl) T.gcut T.fcut.kp T.ncut .nil (passes_call takes00 (fun _ _ _ _ h => h)) (pa_cons (pe_tup (pa_cons (pe_tup pa_nil) (pa_cons (pe_tup (pa_cons (pv 6) (pa_cons (pv 8) pa_nil))) pa_nil))) (pa_cons (pe_tup (pa_cons (pe_tup (pa_cons (pe_tup (pa_cons (pv 6) (pa_cons (pv 8) pa_nil))) pa_nil)) (pa_cons pe_non pa_nil))) pa_nil))) (pe_tup (pa_cons (pe_tup pa_nil) (pa_cons pe_non pa_nil))) (nomark _)) (pss_one (ps_ret pe_bl)) pss_nil)
      (pss_cons (ps_if (pt_cmpR (r := rNz) op_notN (pe_call (E := E0) GC (hr.mono (by omega)) (by rfl) T.gcut T.fcut.kp T.ncut .nil (passes_call takes00 (fun _ _ _ _ h => h)) (pa_cons (pe_tup (pa_cons (pe_tup pa_nil) (pa_cons pe_non pa_nil))) (pa_cons (pe_tup (pa_cons (pe_tup (pa_cons (pe_tup (pa_cons (pv 6) (pa_cons (pv 8) pa_nil))) pa_nil)) (pa_cons pe_non pa_nil))) pa_nil))) pe_non (nomark _)) (pss_one (ps_ret pe_bl)) pss_nil)
      (pss_cons (ps_if (pt_cmpR (r := rNz) op_notN (pe_call (E := E0) GC (hr.mono (by omega)) (by rfl) T.gcut T.fcut.kp T.ncut .nil (passes_call takes00 (fun _ _ _ _ h => h)) (pa_cons (pe_tup (pa_cons (pe_tup (pa_cons (pe_tup (pa_cons (pv 5) (pa_cons (pv 7) pa_nil))) pa_nil)) (pa_cons (pe_tup (pa_cons (pv 6) (pa_cons (pv 8) pa_nil))) pa_nil))) (pa_cons (pe_tup (pa_cons (pe_tup (pa_cons (pe_tup (pa_cons (pv 6) (pa_cons (pv 8) pa_nil))) pa_nil)) (pa_cons (pe_tup (pa_cons (pv 5) (pa_cons (pv 7) pa_nil))) pa_nil))) pa_nil))) pe_non (nomark _)) (pss_one (ps_ret pe_bl)) pss_nil)
      (pss_cons (ps_set (i := 10) nd rfl (.inl rfl) (pe_callKw (E := E0) GK (hr.mono (by omega)) (by rfl) T.gfact_renamed T.ffact_renamed.kp (passes_call takes00 (fun _ _ _ _ h => h)) (pa_cons (pe_tup (pa_cons (pe_tup (pa_cons (pe_tup (pa_cons (pv 5) (pa_cons (pv 7) pa_nil))) pa_nil)) (pa_cons (pe_tup (pa_cons (pv 6) (pa_cons (pe_tup (pa_cons pe_str (pa_cons (pv 5) pa_nil))) pa_nil))) pa_nil))) pa_nil) (pk_cons pe_str (pk_cons pe_str (pk_cons pe_str (pk_cons pe_str pk_nil))))))
      (pss_cons (ps_if (pt_cmpR (op_neF (room200 hr)) (pv 10) (pe_tup (pa_cons (pe_tup (pa_cons (pe_tup (pa_cons (pv 5) (pa_cons (pv 7) pa_nil))) pa_nil)) (pa_cons (pe_tup (pa_cons (pe_tup (pa_cons pe_str (pa_cons (pv 7) pa_nil))) (pa_cons (pe_tup (pa_cons pe_str pa_nil)) pa_nil))) pa_nil))) (nomark _)) (pss_one (ps_ret pe_bl)) pss_nil)
      (pss_cons (ps_set (i := 11) nd rfl (.inl rfl) (pe_callTy call_tuple_of (by rfl) T.b_tuple (by decide +kernel) (pa_cons (pe_lc (own := [("sign", 14)]) (g := (gName 14)) (tt := tYes) (by rfl) nd (pi_str pe_str) (blkOk_by (own := [("sign", 14)]) (N := N_law) (sc := defScope s_law) (by decide +kernel)) (fun _ _ _ _ _ => pg_name (i := 14) nd rfl (.inl rfl)) (fun _ _ _ _ _ => pts_nil) (fun _ _ _ _ _ => (pe_tup (pa_cons (pv 5) (pa_cons (pe_tup (pa_cons (pv 14) pa_nil)) pa_nil))))) pa_nil)))
      (pss_cons (ps_if (pt_cmpR (op_neF (room200 hr)) (pe_call (E := E0) GC (hr.mono (by omega)) (by rfl) T.gcut T.fcut.kp T.ncut .nil (passes_call takes00 (fun _ _ _ _ h => h)) (pa_cons (pe_tup (pa_cons (pv 11) (pa_cons (pe_tup (pa_cons (pv 6) (pa_cons (pe_tup (pa_cons pe_str pa_nil)) pa_nil))) pa_nil))) (pa_cons (pe_tup (pa_cons (pe_tup (pa_cons (pe_ix ix_tup (pv 11) pe_int (fun _ _ => rfl)) (pa_cons (pe_tup (pa_cons (pv 6) (pa_cons (pe_tup (pa_cons pe_str pa_nil)) pa_nil))) pa_nil))) (pa_cons pe_non pa_nil))) pa_nil))) (pe_tup (pa_cons (pv 11) (pa_cons pe_non pa_nil))) (nomark _)) (pss_one (ps_ret pe_bl)) pss_nil)
      (pss_cons (ps_if (pt_cmpR (op_neF (room200 hr)) (pe_call (E := E0) GH (hr.mono (by omega)) (by rfl) T.gchanged T.fchanged.kp T.nchanged .nil (passes_call takes00 (fun _ _ _ _ h => h)) (pa_cons (pe_tup (pa_cons (pv 11) (pa_cons (pe_tup (pa_cons (pv 6) (pa_cons (pe_tup (pa_cons pe_str pa_nil)) pa_nil))) pa_nil))) (pa_cons (pv 5) (pa_cons (pe_tup (pa_cons pe_str pa_nil)) pa_nil)))) (pe_tup (pa_cons (pe_callTy call_tuple_of (by rfl) T.b_tuple (by decide +kernel) (pa_cons (pe_lc (own := [("pair", 15)]) (g := (gName 15)) (tt := tYes) (by rfl) nd (pi_tup (pv 11)) (blkOk_by (own := [("pair", 15)]) (N := N_law) (sc := defScope s_law) (by decide +kernel)) (fun _ _ _ _ _ => pg_name (i := 15) nd rfl (.inl rfl)) (fun _ _ _ _ _ => pts_nil) (fun _ _ _ _ _ => (pe_tup (pa_cons (pe_ix (r := rIxT K) ix_tup (pv 15) pe_int (fun _ _ => rfl)) (pa_cons (pe_tup (pa_cons pe_str pa_nil)) pa_nil))))) pa_nil)) (pa_cons (pe_tup (pa_cons (pv 6) (pa_cons (pe_tup (pa_cons pe_str pa_nil)) pa_nil))) pa_nil))) (nomark _)) (pss_one (ps_ret pe_bl)) pss_nil)
      (pss_cons (ps_set (i := 12) nd rfl (.inl rfl) (pe_tup (pa_cons (pe_tup (pa_cons (pe_tup (pa_cons (pe_tup (pa_cons pe_str pa_nil)) (pa_cons (pe_tup (pa_cons pe_str pa_nil)) pa_nil))) pa_nil)) (pa_cons (pe_tup (pa_cons (pv 5) (pa_cons (pe_tup (pa_cons pe_str (pa_cons (pe_tup (pa_cons pe_str pa_nil)) pa_nil))) pa_nil))) pa_nil))))
      (pss_cons (ps_set (i := 13) nd rfl (.inl rfl) (pe_call (E := E0) GR (hr.mono (by omega)) (by rfl) T.gfact_renamed_by T.ffact_renamed_by.kp T.nfact_renamed_by .nil (passes_call takes00 (fun _ _ _ _ h => h)) (pa_cons (pv 12) (pa_cons (pe_disp (pps_cons pe_str pe_str (pps_cons pe_str pe_str (pps_cons pe_str pe_str (pps_cons pe_str pe_str pps_nil)))) (by rfl) (by rfl) (fun z => by cases z) (by decide)) pa_nil))))
      (pss_one (ps_ret (pe_cmpR (op_eqF (room200 hr)) (pv 13) (pe_tup (pa_cons (pe_ix ix_tup (pv 12) pe_int (fun _ _ => rfl)) (pa_cons (pe_tup (pa_cons (pe_tup (pa_cons pe_str (pa_cons (pe_tup (pa_cons pe_str pa_nil)) pa_nil))) (pa_cons (pe_tup (pa_cons pe_str pa_nil)) pa_nil))) pa_nil))) (nomark _)))))))))))))))))), ?_⟩
  have jb : ∀ n : Nat, 1 ≤ (if (if (n : Int) < 8 then (n : Int) else 8) > 1 then (if (n : Int) < 8 then (n : Int) else 8) else 1) ∧ (if (if (n : Int) < 8 then (n : Int) else 8) > 1 then (if (n : Int) < 8 then (n : Int) else 8) else 1) ≤ 8 := fun n => by
    split <;> split <;> omega
  obtain ⟨j1, j2⟩ := jb (ns.map V.int).length
  refine ⟨_, rfl, a, _, rfl, .inl hS, 8, _, rfl, 1, _, rfl, _, rfl, by omega, by omega, ?_⟩
  generalize (if (if (((ns.map V.int).length : Nat) : Int) < 8 then (((ns.map V.int).length : Nat) : Int) else 8) > 1 then (if (((ns.map V.int).length : Nat) : Int) < 8 then (((ns.map V.int).length : Nat) : Int) else 8) else 1) = j at j1 j2 ⊢
  refine for_range (fun i σ H' => Same H H' ∧ ∃ y1 y2 y3 y4, σ = [some (.ref a), y1, y2, y3, y4, none, none, none, none, none, none, none, none, none, none, none]) ⟨Same.refl H, none, none, none, none, rfl⟩ ?_ ?_
  · rintro i σ H1 hi ⟨s1, y1, y2, y3, y4, rfl⟩
    have hS1 : SqL K H1 a (ns.map V.int) := by
      rcases hS with (h | ⟨o, h⟩) | h
      · exact .inl (.inl (s1 _ _ h))
      · exact .inl (.inr ⟨o, s1 _ _ h⟩)
      · exact .inr h
    refine ⟨_, rfl, _, rfl, a, ns, i, ?_, hS1, by omega, fun H2 p s2 np d0 => ?_⟩
    · rw [Int.zero_add]
      rfl
    refine ⟨_, rfl, p, 0, rfl, d0, by decide, fun nm zs H3 bt3 dd3 nn npn rn gd => ?_⟩
    have dd3 : Dice H3 p 100 := dd3
    have b3 : But p H1 H3 := (But.of s2).trans bt3
    refine ⟨5, rfl, by decide, by decide, for_range (fun k σ G => But p H1 G ∧ Dice G p (100 + 8000 * k) ∧ RowsIn G nm zs ∧ ∃ y1 y4, σ = [some (.ref a), y1, some (.ref p), some (.ref nm), y4, none, none, none, none, none, none, none, none, none, none, none]) ⟨b3, dd3, rn, _, _, rfl⟩ ?_ ?_⟩
    · rintro k σ G1 hk ⟨bG, dG, rG, z1, z4, rfl⟩
      have hk : k < 5 := hk
      refine ⟨_, rfl, _, rfl, p, nm, 100 + 8000 * k, zs, rfl, dG, by unfold cap; omega, rG, npn, gd, fun H4 b4 d4 => ⟨_, rfl, iteF ?_⟩⟩
      have r4 := rG.but b4 dG npn
      refine ⟨_, rfl, _, rfl, p, nm, 100 + 8000 * k + 5000, zs, rfl, d4, by unfold cap; omega, r4, npn, gd, fun H5 b5 d5 => ⟨_, rfl, iteF ?_⟩⟩
      have r5 := r4.but b5 d4 npn
      refine ⟨_, rfl, _, rfl, p, nm, 100 + 8000 * k + 5000 + 1400, zs, rfl, d5, by unfold cap; omega, r5, npn, gd, fun H6 b6 d6 => ⟨_, rfl, iteF ?_⟩⟩
      exact ⟨bG.trans (b4.trans (b5.trans b6)), d6.le (by omega), r5.but b6 d5 npn, _, _, rfl⟩
    · rintro σ G1 ⟨bG, dG, rG, z1, z4, rfl⟩
      exact ⟨s1.trans fun b o h => bG b o h (ne_of_none h np), _, _, _, _, rfl⟩
  rintro σ H1 ⟨s1, y1, y2, y3, y4, rfl⟩
  have le100 : ∀ {n : Nat}, Nat.ble n 100 = true → n ≤ 100 := fun h => Nat.le_of_ble_eq_true h
  refine seq_mh (K := K) (d := .tuple [t0 "a", t0 "b", t0 "c", t0 "d"]) (mh_tup (mh_cons (mh_tup (mh_cons (mh_str "a") mh_nil) (le100 rfl)) (mh_cons (mh_tup (mh_cons (mh_str "b") mh_nil) (le100 rfl)) (mh_cons (mh_tup (mh_cons (mh_str "c") mh_nil) (le100 rfl)) (mh_cons (mh_tup (mh_cons (mh_str "d") mh_nil) (le100 rfl)) mh_nil)))) (le100 rfl)) fun xq H2 s2 dq => ?_
  cases dq with
  | @tup q0 xs _ hq hs =>
  cases hs with
  | @cons x5 xs _ _ dx5 hs =>
  cases hs with
  | @cons x6 xs _ _ dx6 hs =>
  cases hs with
  | @cons x7 xs _ _ dx7 hs =>
  cases hs with
  | @cons x8 xs _ _ dx8 hs =>
  cases hs
  refine ⟨q0, _, rfl, SqT.of hq, rfl, _, _, rfl, _, _, rfl, _, _, rfl, _, _, rfl, rfl, ?_⟩
  clear hq
  refine asg_mh (K := K) (d := .tuple [.tuple idleL, bd]) (mh_tup (mh_cons (mh_tup (mh_cons (mh_tup (mh_cons (mh_var (i := 5) rfl dx5) (mh_cons (mh_var (i := 7) rfl dx7) mh_nil)) (le100 rfl)) (mh_cons (mh_tup (mh_cons (mh_var (i := 6) rfl dx6) (mh_cons (mh_var (i := 8) rfl dx8) mh_nil)) (le100 rfl)) mh_nil)) (le100 rfl)) (mh_cons (mh_tup (mh_cons (mh_var (i := 6) rfl dx6) (mh_cons (mh_var (i := 8) rfl dx8) mh_nil)) (le100 rfl)) mh_nil)) (le100 rfl)) fun x9 H3 sN dx9 => ?_
  have dx5 := dx5.up sN
  have dx6 := dx6.up sN
  have dx7 := dx7.up sN
  have dx8 := dx8.up sN
  refine ne_mh (mh_cut (mh_var (i := 9) rfl dx9) (mh_tup (mh_cons (mh_tup (mh_cons (mh_tup (mh_cons (mh_var (i := 6) rfl dx6) (mh_cons (mh_var (i := 8) rfl dx8) mh_nil)) (le100 rfl)) mh_nil) (le100 rfl)) (mh_cons (mh_tup (mh_cons (mh_var (i := 5) rfl dx5) (mh_cons (mh_var (i := 6) rfl dx6) mh_nil)) (le100 rfl)) mh_nil)) (le100 rfl)) k1o k1) (mh_tup (mh_cons (mh_ix (i := 9) (j := 0) rfl dx9 rfl) (mh_cons (mh_tup (mh_cons (mh_var (i := 5) rfl dx5) (mh_cons (mh_var (i := 6) rfl dx6) mh_nil)) (le100 rfl)) mh_nil)) (le100 rfl)) (by decide +kernel) fun H4 sN => ?_
  have dx5 := dx5.up sN
  have dx6 := dx6.up sN
  have dx7 := dx7.up sN
  have dx8 := dx8.up sN
  have dx9 := dx9.up sN
  refine ne_mh (mh_cut (L := []) (c := bd) (M := [bd]) (e := .none) (mh_tup (mh_cons (mh_tup mh_nil (le100 rfl)) (mh_cons (mh_tup (mh_cons (mh_var (i := 6) rfl dx6) (mh_cons (mh_var (i := 8) rfl dx8) mh_nil)) (le100 rfl)) mh_nil)) (le100 rfl)) (mh_tup (mh_cons (mh_tup (mh_cons (mh_tup (mh_cons (mh_var (i := 6) rfl dx6) (mh_cons (mh_var (i := 8) rfl dx8) mh_nil)) (le100 rfl)) mh_nil) (le100 rfl)) (mh_cons mh_non mh_nil)) (le100 rfl)) k2o k2) (mh_tup (mh_cons (mh_tup mh_nil (le100 rfl)) (mh_cons mh_non mh_nil)) (le100 rfl)) (by decide +kernel) fun H5 sN => ?_
  have dx5 := dx5.up sN
  have dx6 := dx6.up sN
  have dx7 := dx7.up sN
  have dx8 := dx8.up sN
  have dx9 := dx9.up sN
  refine nn_mh (mh_cut (L := []) (c := .none) (M := [bd]) (e := .none) (mh_tup (mh_cons (mh_tup mh_nil (le100 rfl)) (mh_cons mh_non mh_nil)) (le100 rfl)) (mh_tup (mh_cons (mh_tup (mh_cons (mh_tup (mh_cons (mh_var (i := 6) rfl dx6) (mh_cons (mh_var (i := 8) rfl dx8) mh_nil)) (le100 rfl)) mh_nil) (le100 rfl)) (mh_cons mh_non mh_nil)) (le100 rfl)) k3o k3) fun H6 sN => ?_
  have dx5 := dx5.up sN
  have dx6 := dx6.up sN
  have dx7 := dx7.up sN
  have dx8 := dx8.up sN
  have dx9 := dx9.up sN
  refine nn_mh (mh_cut (L := [p2 (t0 "a") (t0 "c")]) (c := bd) (M := [bd]) (e := p2 (t0 "a") (t0 "c")) (mh_tup (mh_cons (mh_tup (mh_cons (mh_tup (mh_cons (mh_var (i := 5) rfl dx5) (mh_cons (mh_var (i := 7) rfl dx7) mh_nil)) (le100 rfl)) mh_nil) (le100 rfl)) (mh_cons (mh_tup (mh_cons (mh_var (i := 6) rfl dx6) (mh_cons (mh_var (i := 8) rfl dx8) mh_nil)) (le100 rfl)) mh_nil)) (le100 rfl)) (mh_tup (mh_cons (mh_tup (mh_cons (mh_tup (mh_cons (mh_var (i := 6) rfl dx6) (mh_cons (mh_var (i := 8) rfl dx8) mh_nil)) (le100 rfl)) mh_nil) (le100 rfl)) (mh_cons (mh_tup (mh_cons (mh_var (i := 5) rfl dx5) (mh_cons (mh_var (i := 7) rfl dx7) mh_nil)) (le100 rfl)) mh_nil)) (le100 rfl)) k4o k4) fun H7 sN => ?_
  have dx5 := dx5.up sN
  have dx6 := dx6.up sN
  have dx7 := dx7.up sN
  have dx8 := dx8.up sN
  have dx9 := dx9.up sN
  refine asg_mh (mh_frk m5 (fun _ _ h => h) rfl (mh_tup (mh_cons (mh_tup (mh_cons (mh_tup (mh_cons (mh_var (i := 5) rfl dx5) (mh_cons (mh_var (i := 7) rfl dx7) mh_nil)) (le100 rfl)) mh_nil) (le100 rfl)) (mh_cons (mh_tup (mh_cons (mh_var (i := 6) rfl dx6) (mh_cons (mh_tup (mh_cons (mh_str "f") (mh_cons (mh_var (i := 5) rfl dx5) mh_nil)) (le100 rfl)) mh_nil)) (le100 rfl)) mh_nil)) (le100 rfl)) k5o k5) fun x10 H8 sN dx10 => ?_
  have dx5 := dx5.up sN
  have dx6 := dx6.up sN
  have dx7 := dx7.up sN
  have dx8 := dx8.up sN
  have dx9 := dx9.up sN
  refine ne_mh (mh_var (i := 10) rfl dx10) (mh_tup (mh_cons (mh_tup (mh_cons (mh_tup (mh_cons (mh_var (i := 5) rfl dx5) (mh_cons (mh_var (i := 7) rfl dx7) mh_nil)) (le100 rfl)) mh_nil) (le100 rfl)) (mh_cons (mh_tup (mh_cons (mh_tup (mh_cons (mh_str "b") (mh_cons (mh_var (i := 7) rfl dx7) mh_nil)) (le100 rfl)) (mh_cons (mh_tup (mh_cons (mh_str "f") mh_nil) (le100 rfl)) mh_nil)) (le100 rfl)) mh_nil)) (le100 rfl)) (by decide +kernel) fun H9 sN => ?_
  have dx5 := dx5.up sN
  have dx6 := dx6.up sN
  have dx7 := dx7.up sN
  have dx8 := dx8.up sN
  have dx9 := dx9.up sN
  have eS : signs.length = 12 := by decide +kernel
  refine asg_mh (K := K) (d := .tuple wideL) (fun H Q sQ q => ?_) fun x11 H10 sN dx11 => ?_
  · have dx5 := dx5.up sQ
    refine ⟨_, rfl, fun D nD => ?_⟩
    refine lc_signs (fun i G => Same H G ∧ ∃ ys, G D = some (.lst ys) ∧ DxAll K G ys (wideL.take i)) ⟨same_put nD, [], upd_same, .nil⟩ ?_ ?_
    · rintro i c G hc ⟨sG, ys, eD, dys⟩
      have hi : wideL[i]? = some (p2 (t0 "a") (t0 ⟨#[c]⟩)) := by
        rw [wideL, signs, List.getElem?_map, List.getElem?_map, Array.getElem?_toList, hc]
        rfl
      have li : i < 12 := by
        have := (List.getElem?_eq_some_iff.mp hi).1
        rwa [wideL, List.length_map, eS] at this
      refine ⟨rfl, (iteT (B := False) ?_ : if true = true then _ else False)⟩
      refine ⟨_, rfl, _, rfl, by show 1 ≤ sizeLine; decide, fun u nu => ⟨by show 2 ≤ sizeLine; decide, fun k nk => ?_⟩⟩
      have su := same_put (o := .tup [.str ⟨#[c]⟩]) nu
      have sk := same_put (o := .tup [x5, .ref u]) nk
      have suk := su.trans sk
      have eD7 := suk _ _ eD
      have tl := Tups.lst (ys := ys ++ [.ref k]) eD7
      refine ⟨ys, eD7, by rw [dys.length, List.length_take]; exact small1000 (by omega), fun z oz hz => ?_, ys ++ [.ref k], upd_same, ?_⟩
      · rw [upd_ne (ne_of_none hz nD)]
        exact suk _ _ (sG _ _ hz)
      · have dn : Dx K (upd (upd G u (.tup [.str ⟨#[c]⟩])) k (.tup [x5, .ref u])) (.ref k) (p2 (t0 "a") (t0 ⟨#[c]⟩)) := .tup upd_same (.cons (dx5.up (sG.trans suk)) (.cons (.tup (sk _ _ upd_same) (.cons (.str _) .nil)) .nil))
        rw [List.take_add_one, hi]
        have pw : pureAll (wideL.take i ++ [p2 (t0 "a") (t0 ⟨#[c]⟩)]) = true := by
          have pa : ∀ l : List Str, pureAll (l.map fun s => p2 (t0 "a") (t0 s)) = true := fun l => by
            induction l with
            | nil => rfl
            | cons x l ih => rw [List.map_cons, pureAll, ih]; rfl
          have e : wideL.take i ++ [p2 (t0 "a") (t0 ⟨#[c]⟩)] = (signs.take i ++ [(⟨#[c]⟩ : Str)]).map fun s => p2 (t0 "a") (t0 s) := by
            rw [wideL, List.map_append, List.map_take]
            rfl
          rw [e]
          exact pa _
        exact DxAll.ts tl _ _ pw (DxAll.append (dys.up suk) (.cons dn .nil))
    · rintro G ⟨sG, ys, eD, dys⟩
      have e12 : ("bcdefghijklm" : Str).cps.size = 12 := by decide +kernel
      have el : wideL.length = 12 := by rw [wideL, List.length_map, eS]
      rw [e12, ← el, List.take_length] at dys
      refine ⟨D, ys, rfl, .inl ⟨SqL.of eD, fun t nt => ?_⟩⟩
      have st := same_put (o := .tup ys) nt
      exact q _ _ (sG.trans st) (.tup upd_same (dys.up st))
  have dx5 := dx5.up sN
  have dx6 := dx6.up sN
  clear dx7 dx8 dx9 dx10
  refine ne_mh (mh_cut (L := wideL) (c := bz) (M := [p2 (t0 "a") (t0 "b"), bz]) (e := .none) (mh_tup (mh_cons (mh_var (i := 11) rfl dx11) (mh_cons (mh_tup (mh_cons (mh_var (i := 6) rfl dx6) (mh_cons (mh_tup (mh_cons (mh_str "z") mh_nil) (le100 rfl)) mh_nil)) (le100 rfl)) mh_nil)) (le100 rfl)) (mh_tup (mh_cons (mh_tup (mh_cons (mh_ix (i := 11) (j := 0) (ds := wideL) rfl dx11 rfl) (mh_cons (mh_tup (mh_cons (mh_var (i := 6) rfl dx6) (mh_cons (mh_tup (mh_cons (mh_str "z") mh_nil) (le100 rfl)) mh_nil)) (le100 rfl)) mh_nil)) (le100 rfl)) (mh_cons mh_non mh_nil)) (le100 rfl)) k6o k6) (mh_tup (mh_cons (mh_var (i := 11) rfl dx11) (mh_cons mh_non mh_nil)) (le100 rfl)) (by decide +kernel) fun H11 sN => ?_
  have dx5 := dx5.up sN
  have dx6 := dx6.up sN
  have dx11 := dx11.up sN
  refine ne_mh (mh_ch (L := wideL) (c := bz) (eo := t0 "a") (en := t0 "z") (mh_tup (mh_cons (mh_var (i := 11) rfl dx11) (mh_cons (mh_tup (mh_cons (mh_var (i := 6) rfl dx6) (mh_cons (mh_tup (mh_cons (mh_str "z") mh_nil) (le100 rfl)) mh_nil)) (le100 rfl)) mh_nil)) (le100 rfl)) (mh_var (i := 5) rfl dx5) (mh_tup (mh_cons (mh_str "z") mh_nil) (le100 rfl)) k7o k7) (mh_tup (mh_cons (d := .tuple zL) (fun H Q sQ q => ?_) (mh_cons (mh_tup (mh_cons (mh_var (i := 6) rfl dx6) (mh_cons (mh_tup (mh_cons (mh_str "z") mh_nil) (le100 rfl)) mh_nil)) (le100 rfl)) mh_nil)) (le100 rfl)) (by decide +kernel) fun H12 sN => ?_
  · have dw := dx11.up sQ
    have ew : x11 = x11 := rfl
    generalize x11 = xw at dw ew
    cases dw with
    | @tup q0 xs _ hq hs =>
    refine ⟨_, ew ▸ rfl, q0, rfl, ⟨_, SqT.of hq⟩, fun D nD => ?_⟩
    have lx := hs.length
    have el : wideL.length = 12 := by rw [wideL, List.length_map, eS]
    refine lc_tup (K := K) (a := q0) (xs := xs) (fun i G => Same H G ∧ ∃ ys, G D = some (.lst ys) ∧ DxAll K G ys (zL.take i)) ⟨same_put nD, [], upd_same, .nil⟩ (fun i G _ h => SqT.of (h.1 _ _ hq)) ?_ ?_
    · rintro i y G hi ⟨sG, ys, eD, dys⟩
      have lt : i < wideL.length := by
        rw [← lx]
        exact (List.getElem?_eq_some_iff.mp hi).1
      have ls : i < signs.length := by rwa [wideL, List.length_map] at lt
      have e1 : wideL[i]? = some (p2 (t0 "a") (t0 signs[i])) := by
        rw [wideL, List.getElem?_map, List.getElem?_eq_getElem ls]
        rfl
      have e2 : zL[i]? = some (p2 (t0 signs[i]) (t0 "z")) := by
        rw [zL, List.getElem?_map, List.getElem?_eq_getElem ls]
        rfl
      obtain ⟨v2, hv2, dv2⟩ := hs.get e1
      rw [hi] at hv2
      cases hv2
      generalize signs[i] = sg at dv2 e2
      obtain ⟨q1, u1, v1, rfl, hq1, du1, dv1⟩ := dx_couple (dv2.up sG)
      refine ⟨rfl, (iteT (B := False) ?_ : if true = true then _ else False)⟩
      refine ⟨_, rfl, q1, _, 1, v1, rfl, rfl, SqT.of hq1, atI_nat (j := 1) rfl, by show 1 ≤ sizeLine; decide, fun u nu => ⟨by show 2 ≤ sizeLine; decide, fun k nk => ?_⟩⟩
      have su := same_put (o := .tup [.str "z"]) nu
      have sk := same_put (o := .tup [v1, .ref u]) nk
      have suk := su.trans sk
      have eD7 := suk _ _ eD
      have tl := Tups.lst (ys := ys ++ [.ref k]) eD7
      refine ⟨ys, eD7, by rw [dys.length, List.length_take]; exact small1000 (by omega), fun z oz hz => ?_, ys ++ [.ref k], upd_same, ?_⟩
      · rw [upd_ne (ne_of_none hz nD)]
        exact suk _ _ (sG _ _ hz)
      · have dn : Dx K (upd (upd G u (.tup [.str "z"])) k (.tup [v1, .ref u])) (.ref k) (p2 (t0 sg) (t0 "z")) := .tup upd_same (.cons (dv1.up suk) (.cons (.tup (sk _ _ upd_same) (.cons (.str _) .nil)) .nil))
        rw [List.take_add_one, e2]
        have pw : pureAll (zL.take i ++ [p2 (t0 sg) (t0 "z")]) = true := by
          have pa : ∀ l : List Str, pureAll (l.map fun s => p2 (t0 s) (t0 "z")) = true := fun l => by
            induction l with
            | nil => rfl
            | cons x l ih => rw [List.map_cons, pureAll, ih]; rfl
          have e : zL.take i ++ [p2 (t0 sg) (t0 "z")] = (signs.take i ++ [sg]).map fun s => p2 (t0 s) (t0 "z") := by
            rw [zL, List.map_append, List.map_take]
            rfl
          rw [e]
          exact pa _
        exact DxAll.ts tl _ _ pw (DxAll.append (dys.up suk) (.cons dn .nil))
    · rintro G ⟨sG, ys, eD, dys⟩
      have ez : zL.length = 12 := by rw [zL, List.length_map, eS]
      rw [lx, el, ← ez, List.take_length] at dys
      refine ⟨D, ys, rfl, .inl ⟨SqL.of eD, fun t nt => ?_⟩⟩
      have st := same_put (o := .tup ys) nt
      exact q _ _ (sG.trans st) (.tup upd_same (dys.up st))
  have dx5 := dx5.up sN
  have dx6 := dx6.up sN
  have dx11 := dx11.up sN
  refine asg_mh (K := K) (d := .tuple [.tuple [fn], p2 (t0 "a") (fT (t0 "fact"))]) (mh_tup (mh_cons (mh_tup (mh_cons (mh_tup (mh_cons (mh_tup (mh_cons (mh_str "fact") mh_nil) (le100 rfl)) (mh_cons (mh_tup (mh_cons (mh_str "names") mh_nil) (le100 rfl)) mh_nil)) (le100 rfl)) mh_nil) (le100 rfl)) (mh_cons (mh_tup (mh_cons (mh_var (i := 5) rfl dx5) (mh_cons (mh_tup (mh_cons (mh_str "f") (mh_cons (mh_tup (mh_cons (mh_str "fact") mh_nil) (le100 rfl)) mh_nil)) (le100 rfl)) mh_nil)) (le100 rfl)) mh_nil)) (le100 rfl)) fun x12 H13 sN dx12 => ?_
  have dx5 := dx5.up sN
  have dx6 := dx6.up sN
  refine asg_mh (mh_fr (K := K) m8 (mh_var (i := 12) rfl dx12) k8o k8) fun x13 H14 sN dx13 => ?_
  have dx5 := dx5.up sN
  have dx6 := dx6.up sN
  have dx12 := dx12.up sN
  exact eq_mh (mh_var (i := 13) rfl dx13) (mh_tup (mh_cons (mh_ix (i := 12) (j := 0) rfl dx12 rfl) (mh_cons (mh_tup (mh_cons (mh_tup (mh_cons (mh_str "f") (mh_cons (mh_tup (mh_cons (mh_str "names") mh_nil) (le100 rfl)) mh_nil)) (le100 rfl)) (mh_cons (mh_tup (mh_cons (mh_str "term") mh_nil) (le100 rfl)) mh_nil)) (le100 rfl)) mh_nil)) (le100 rfl)) (by decide +kernel) fun H' _ => q H'
end
end K12
open PySem PySem.Spec PyProof.Rows L2 Kx
theorem K12.tx_mk {K : PySem.W.Frag} {h : Heap} {mg : Str → Option Value} (X : K.In h) (G : h.Ns mainGlobals mg)
    {fpreorder : Addr} {odpreorder anpreorder : Option Addr} {slpreorder : Array (Option Value)} {ocpreorder kVpreorder dcpreorder pmpreorder cdpreorder ctpreorder : Value}
    {fwritten : Addr} {odwritten anwritten : Option Addr} {slwritten : Array (Option Value)} {ocwritten kVwritten dcwritten pmwritten cdwritten ctwritten : Value}
    {fnumbered : Addr} {odnumbered annumbered : Option Addr} {slnumbered : Array (Option Value)} {ocnumbered kVnumbered dcnumbered pmnumbered cdnumbered ctnumbered : Value}
    {fnumbered_rows : Addr} {odnumbered_rows annumbered_rows : Option Addr} {slnumbered_rows : Array (Option Value)} {ocnumbered_rows kVnumbered_rows dcnumbered_rows pmnumbered_rows cdnumbered_rows ctnumbered_rows : Value}
    {fput_in : Addr} {odput_in anput_in : Option Addr} {slput_in : Array (Option Value)} {ocput_in kVput_in dcput_in pmput_in cdput_in ctput_in : Value}
    {fwith_names : Addr} {odwith_names anwith_names : Option Addr} {slwith_names : Array (Option Value)} {ocwith_names kVwith_names dcwith_names pmwith_names cdwith_names ctwith_names : Value}
    {fis_name : Addr} {odis_name anis_name : Option Addr} {slis_name : Array (Option Value)} {ocis_name kVis_name dcis_name pmis_name cdis_name ctis_name : Value}
    {fis_term : Addr} {odis_term anis_term : Option Addr} {slis_term : Array (Option Value)} {ocis_term kVis_term dcis_term pmis_term cdis_term ctis_term : Value}
    {fcheck_term : Addr} {odcheck_term ancheck_term : Option Addr} {slcheck_term : Array (Option Value)} {occheck_term kVcheck_term dccheck_term pmcheck_term cdcheck_term ctcheck_term : Value}
    {fcheck_renaming : Addr} {odcheck_renaming ancheck_renaming : Option Addr} {slcheck_renaming : Array (Option Value)} {occheck_renaming kVcheck_renaming dccheck_renaming pmcheck_renaming cdcheck_renaming ctcheck_renaming : Value}
    {fjoint_places : Addr} {odjoint_places anjoint_places : Option Addr} {sljoint_places : Array (Option Value)} {ocjoint_places kVjoint_places dcjoint_places pmjoint_places cdjoint_places ctjoint_places : Value}
    {fhas_form : Addr} {odhas_form anhas_form : Option Addr} {slhas_form : Array (Option Value)} {ochas_form kVhas_form dchas_form pmhas_form cdhas_form cthas_form : Value}
    {fis_fact : Addr} {odis_fact anis_fact : Option Addr} {slis_fact : Array (Option Value)} {ocis_fact kVis_fact dcis_fact pmis_fact cdis_fact ctis_fact : Value}
    {fcut : Addr} {odcut ancut : Option Addr} {slcut : Array (Option Value)} {occut kVcut dccut pmcut cdcut ctcut : Value}
    {fchanged : Addr} {odchanged anchanged : Option Addr} {slchanged : Array (Option Value)} {occhanged kVchanged dcchanged pmchanged cdchanged ctchanged : Value}
    {ffact_renamed : Addr} {odfact_renamed anfact_renamed : Option Addr} {slfact_renamed : Array (Option Value)} {ocfact_renamed kVfact_renamed dcfact_renamed pmfact_renamed cdfact_renamed ctfact_renamed : Value}
    {ffact_renamed_by : Addr} {odfact_renamed_by anfact_renamed_by : Option Addr} {slfact_renamed_by : Array (Option Value)} {ocfact_renamed_by kVfact_renamed_by dcfact_renamed_by pmfact_renamed_by cdfact_renamed_by ctfact_renamed_by : Value}
    {fcheck_fact : Addr} {odcheck_fact ancheck_fact : Option Addr} {slcheck_fact : Array (Option Value)} {occheck_fact kVcheck_fact dccheck_fact pmcheck_fact cdcheck_fact ctcheck_fact : Value}
    {fis_couple : Addr} {odis_couple anis_couple : Option Addr} {slis_couple : Array (Option Value)} {ocis_couple kVis_couple dcis_couple pmis_couple cdis_couple ctis_couple : Value}
    {fare_couples : Addr} {odare_couples anare_couples : Option Addr} {slare_couples : Array (Option Value)} {ocare_couples kVare_couples dcare_couples pmare_couples cdare_couples ctare_couples : Value}
    {fis_ordered : Addr} {odis_ordered anis_ordered : Option Addr} {slis_ordered : Array (Option Value)} {ocis_ordered kVis_ordered dcis_ordered pmis_ordered cdis_ordered ctis_ordered : Value}
    {fkey_of : Addr} {odkey_of ankey_of : Option Addr} {slkey_of : Array (Option Value)} {ockey_of kVkey_of dckey_of pmkey_of cdkey_of ctkey_of : Value}
    {fsides_of : Addr} {odsides_of ansides_of : Option Addr} {slsides_of : Array (Option Value)} {ocsides_of kVsides_of dcsides_of pmsides_of cdsides_of ctsides_of : Value}
    {fpairs_in : Addr} {odpairs_in anpairs_in : Option Addr} {slpairs_in : Array (Option Value)} {ocpairs_in kVpairs_in dcpairs_in pmpairs_in cdpairs_in ctpairs_in : Value}
    {fpairs_of : Addr} {odpairs_of anpairs_of : Option Addr} {slpairs_of : Array (Option Value)} {ocpairs_of kVpairs_of dcpairs_of pmpairs_of cdpairs_of ctpairs_of : Value}
    {ffact_of : Addr} {odfact_of anfact_of : Option Addr} {slfact_of : Array (Option Value)} {ocfact_of kVfact_of dcfact_of pmfact_of cdfact_of ctfact_of : Value}
    {fsays_nothing : Addr} {odsays_nothing ansays_nothing : Option Addr} {slsays_nothing : Array (Option Value)} {ocsays_nothing kVsays_nothing dcsays_nothing pmsays_nothing cdsays_nothing ctsays_nothing : Value}
    {f_law_dice : Addr} {od_law_dice an_law_dice : Option Addr} {sl_law_dice : Array (Option Value)} {oc_law_dice kV_law_dice dc_law_dice pm_law_dice cd_law_dice ct_law_dice : Value}
    {f_law_roll : Addr} {od_law_roll an_law_roll : Option Addr} {sl_law_roll : Array (Option Value)} {oc_law_roll kV_law_roll dc_law_roll pm_law_roll cd_law_roll ct_law_roll : Value}
    {f_law_pick : Addr} {od_law_pick an_law_pick : Option Addr} {sl_law_pick : Array (Option Value)} {oc_law_pick kV_law_pick dc_law_pick pm_law_pick cd_law_pick ct_law_pick : Value}
    {f_law_mixed : Addr} {od_law_mixed an_law_mixed : Option Addr} {sl_law_mixed : Array (Option Value)} {oc_law_mixed kV_law_mixed dc_law_mixed pm_law_mixed cd_law_mixed ct_law_mixed : Value}
    {f_law_text : Addr} {od_law_text an_law_text : Option Addr} {sl_law_text : Array (Option Value)} {oc_law_text kV_law_text dc_law_text pm_law_text cd_law_text ct_law_text : Value}
    {f_law_below : Addr} {od_law_below an_law_below : Option Addr} {sl_law_below : Array (Option Value)} {oc_law_below kV_law_below dc_law_below pm_law_below cd_law_below ct_law_below : Value}
    {f_law_pair : Addr} {od_law_pair an_law_pair : Option Addr} {sl_law_pair : Array (Option Value)} {oc_law_pair kV_law_pair dc_law_pair pm_law_pair cd_law_pair ct_law_pair : Value}
    {f_law_terms_in : Addr} {od_law_terms_in an_law_terms_in : Option Addr} {sl_law_terms_in : Array (Option Value)} {oc_law_terms_in kV_law_terms_in dc_law_terms_in pm_law_terms_in cd_law_terms_in ct_law_terms_in : Value}
    {f_law_names : Addr} {od_law_names an_law_names : Option Addr} {sl_law_names : Array (Option Value)} {oc_law_names kV_law_names dc_law_names pm_law_names cd_law_names ct_law_names : Value}
    {f_law_term : Addr} {od_law_term an_law_term : Option Addr} {sl_law_term : Array (Option Value)} {oc_law_term kV_law_term dc_law_term pm_law_term cd_law_term ct_law_term : Value}
    {f_law_drawn_pair : Addr} {od_law_drawn_pair an_law_drawn_pair : Option Addr} {sl_law_drawn_pair : Array (Option Value)} {oc_law_drawn_pair kV_law_drawn_pair dc_law_drawn_pair pm_law_drawn_pair cd_law_drawn_pair ct_law_drawn_pair : Value}
    {f_law_drawn_fact : Addr} {od_law_drawn_fact an_law_drawn_fact : Option Addr} {sl_law_drawn_fact : Array (Option Value)} {oc_law_drawn_fact kV_law_drawn_fact dc_law_drawn_fact pm_law_drawn_fact cd_law_drawn_fact ct_law_drawn_fact : Value}
    {f_law_at : Addr} {od_law_at an_law_at : Option Addr} {sl_law_at : Array (Option Value)} {oc_law_at kV_law_at dc_law_at pm_law_at cd_law_at ct_law_at : Value}
    {f_law_value : Addr} {od_law_value an_law_value : Option Addr} {sl_law_value : Array (Option Value)} {oc_law_value kV_law_value dc_law_value pm_law_value cd_law_value ct_law_value : Value}
    {f_law_true : Addr} {od_law_true an_law_true : Option Addr} {sl_law_true : Array (Option Value)} {oc_law_true kV_law_true dc_law_true pm_law_true cd_law_true ct_law_true : Value}
    {f_law_due : Addr} {od_law_due an_law_due : Option Addr} {sl_law_due : Array (Option Value)} {oc_law_due kV_law_due dc_law_due pm_law_due cd_law_due ct_law_due : Value}
    {f_law_second : Addr} {od_law_second an_law_second : Option Addr} {sl_law_second : Array (Option Value)} {oc_law_second kV_law_second dc_law_second pm_law_second cd_law_second ct_law_second : Value}
    {f_law_cut_due : Addr} {od_law_cut_due an_law_cut_due : Option Addr} {sl_law_cut_due : Array (Option Value)} {oc_law_cut_due kV_law_cut_due dc_law_cut_due pm_law_cut_due cd_law_cut_due ct_law_cut_due : Value}
    {f_law_drawn_world : Addr} {od_law_drawn_world an_law_drawn_world : Option Addr} {sl_law_drawn_world : Array (Option Value)} {oc_law_drawn_world kV_law_drawn_world dc_law_drawn_world pm_law_drawn_world cd_law_drawn_world ct_law_drawn_world : Value}
    {f_law_cut_right : Addr} {od_law_cut_right an_law_cut_right : Option Addr} {sl_law_cut_right : Array (Option Value)} {oc_law_cut_right kV_law_cut_right dc_law_cut_right pm_law_cut_right cd_law_cut_right ct_law_cut_right : Value}
    {f_law_put : Addr} {od_law_put an_law_put : Option Addr} {sl_law_put : Array (Option Value)} {oc_law_put kV_law_put dc_law_put pm_law_put cd_law_put ct_law_put : Value}
    {f_law_changed_right : Addr} {od_law_changed_right an_law_changed_right : Option Addr} {sl_law_changed_right : Array (Option Value)} {oc_law_changed_right kV_law_changed_right dc_law_changed_right pm_law_changed_right cd_law_changed_right ct_law_changed_right : Value}
    {f_law_other_names : Addr} {od_law_other_names an_law_other_names : Option Addr} {sl_law_other_names : Array (Option Value)} {oc_law_other_names kV_law_other_names dc_law_other_names pm_law_other_names cd_law_other_names ct_law_other_names : Value}
    {f_law_renamed_right : Addr} {od_law_renamed_right an_law_renamed_right : Option Addr} {sl_law_renamed_right : Array (Option Value)} {oc_law_renamed_right kV_law_renamed_right dc_law_renamed_right pm_law_renamed_right cd_law_renamed_right ct_law_renamed_right : Value}
    {flaw : Addr} {odlaw anlaw : Option Addr} {sllaw : Array (Option Value)} {oclaw kVlaw dclaw pmlaw cdlaw ctlaw : Value}
    (apreorder : PySem.W.nsIn K mainGlobals "preorder" = some (some (.ref fpreorder))) (lpreorder : K.lookup fpreorder = some ⟨ocpreorder, odpreorder, .func (PySem.W.fnOf "preorder" "preorder" (defArgs K12.s_preorder) (defBody K12.s_preorder) (defScope K12.s_preorder) .none kVpreorder dcpreorder pmpreorder anpreorder cdpreorder ctpreorder), slpreorder⟩) (cpreorder : PySem.W.codeIn K cdpreorder "preorder" = true) (kpreorder : PySem.W.keepIn K (.ref fpreorder) = true)
    (awritten : PySem.W.nsIn K mainGlobals "written" = some (some (.ref fwritten))) (lwritten : K.lookup fwritten = some ⟨ocwritten, odwritten, .func (PySem.W.fnOf "written" "written" (defArgs K12.s_written) (defBody K12.s_written) (defScope K12.s_written) .none kVwritten dcwritten pmwritten anwritten cdwritten ctwritten), slwritten⟩) (cwritten : PySem.W.codeIn K cdwritten "written" = true) (kwritten : PySem.W.keepIn K (.ref fwritten) = true)
    (anumbered : PySem.W.nsIn K mainGlobals "numbered" = some (some (.ref fnumbered))) (lnumbered : K.lookup fnumbered = some ⟨ocnumbered, odnumbered, .func (PySem.W.fnOf "numbered" "numbered" (defArgs K12.s_numbered) (defBody K12.s_numbered) (defScope K12.s_numbered) .none kVnumbered dcnumbered pmnumbered annumbered cdnumbered ctnumbered), slnumbered⟩) (cnumbered : PySem.W.codeIn K cdnumbered "numbered" = true) (knumbered : PySem.W.keepIn K (.ref fnumbered) = true)
    (anumbered_rows : PySem.W.nsIn K mainGlobals "numbered_rows" = some (some (.ref fnumbered_rows))) (lnumbered_rows : K.lookup fnumbered_rows = some ⟨ocnumbered_rows, odnumbered_rows, .func (PySem.W.fnOf "numbered_rows" "numbered_rows" (defArgs K12.s_numbered_rows) (defBody K12.s_numbered_rows) (defScope K12.s_numbered_rows) .none kVnumbered_rows dcnumbered_rows pmnumbered_rows annumbered_rows cdnumbered_rows ctnumbered_rows), slnumbered_rows⟩) (cnumbered_rows : PySem.W.codeIn K cdnumbered_rows "numbered_rows" = true) (knumbered_rows : PySem.W.keepIn K (.ref fnumbered_rows) = true)
    (aput_in : PySem.W.nsIn K mainGlobals "put_in" = some (some (.ref fput_in))) (lput_in : K.lookup fput_in = some ⟨ocput_in, odput_in, .func (PySem.W.fnOf "put_in" "put_in" (defArgs K12.s_put_in) (defBody K12.s_put_in) (defScope K12.s_put_in) .none kVput_in dcput_in pmput_in anput_in cdput_in ctput_in), slput_in⟩) (cput_in : PySem.W.codeIn K cdput_in "put_in" = true) (kput_in : PySem.W.keepIn K (.ref fput_in) = true)
    (awith_names : PySem.W.nsIn K mainGlobals "with_names" = some (some (.ref fwith_names))) (lwith_names : K.lookup fwith_names = some ⟨ocwith_names, odwith_names, .func (PySem.W.fnOf "with_names" "with_names" (defArgs K12.s_with_names) (defBody K12.s_with_names) (defScope K12.s_with_names) .none kVwith_names dcwith_names pmwith_names anwith_names cdwith_names ctwith_names), slwith_names⟩) (cwith_names : PySem.W.codeIn K cdwith_names "with_names" = true) (kwith_names : PySem.W.keepIn K (.ref fwith_names) = true)
    (ais_name : PySem.W.nsIn K mainGlobals "is_name" = some (some (.ref fis_name))) (lis_name : K.lookup fis_name = some ⟨ocis_name, odis_name, .func (PySem.W.fnOf "is_name" "is_name" (defArgs K12.s_is_name) (defBody K12.s_is_name) (defScope K12.s_is_name) .none kVis_name dcis_name pmis_name anis_name cdis_name ctis_name), slis_name⟩) (cis_name : PySem.W.codeIn K cdis_name "is_name" = true) (kis_name : PySem.W.keepIn K (.ref fis_name) = true)
    (ais_term : PySem.W.nsIn K mainGlobals "is_term" = some (some (.ref fis_term))) (lis_term : K.lookup fis_term = some ⟨ocis_term, odis_term, .func (PySem.W.fnOf "is_term" "is_term" (defArgs K12.s_is_term) (defBody K12.s_is_term) (defScope K12.s_is_term) .none kVis_term dcis_term pmis_term anis_term cdis_term ctis_term), slis_term⟩) (cis_term : PySem.W.codeIn K cdis_term "is_term" = true) (kis_term : PySem.W.keepIn K (.ref fis_term) = true)
    (acheck_term : PySem.W.nsIn K mainGlobals "check_term" = some (some (.ref fcheck_term))) (lcheck_term : K.lookup fcheck_term = some ⟨occheck_term, odcheck_term, .func (PySem.W.fnOf "check_term" "check_term" (defArgs K12.s_check_term) (defBody K12.s_check_term) (defScope K12.s_check_term) .none kVcheck_term dccheck_term pmcheck_term ancheck_term cdcheck_term ctcheck_term), slcheck_term⟩) (ccheck_term : PySem.W.codeIn K cdcheck_term "check_term" = true) (kcheck_term : PySem.W.keepIn K (.ref fcheck_term) = true)
    (acheck_renaming : PySem.W.nsIn K mainGlobals "check_renaming" = some (some (.ref fcheck_renaming))) (lcheck_renaming : K.lookup fcheck_renaming = some ⟨occheck_renaming, odcheck_renaming, .func (PySem.W.fnOf "check_renaming" "check_renaming" (defArgs K12.s_check_renaming) (defBody K12.s_check_renaming) (defScope K12.s_check_renaming) .none kVcheck_renaming dccheck_renaming pmcheck_renaming ancheck_renaming cdcheck_renaming ctcheck_renaming), slcheck_renaming⟩) (ccheck_renaming : PySem.W.codeIn K cdcheck_renaming "check_renaming" = true) (kcheck_renaming : PySem.W.keepIn K (.ref fcheck_renaming) = true)
    (ajoint_places : PySem.W.nsIn K mainGlobals "joint_places" = some (some (.ref fjoint_places))) (ljoint_places : K.lookup fjoint_places = some ⟨ocjoint_places, odjoint_places, .func (PySem.W.fnOf "joint_places" "joint_places" (defArgs K12.s_joint_places) (defBody K12.s_joint_places) (defScope K12.s_joint_places) .none kVjoint_places dcjoint_places pmjoint_places anjoint_places cdjoint_places ctjoint_places), sljoint_places⟩) (cjoint_places : PySem.W.codeIn K cdjoint_places "joint_places" = true) (kjoint_places : PySem.W.keepIn K (.ref fjoint_places) = true)
    (ahas_form : PySem.W.nsIn K mainGlobals "has_form" = some (some (.ref fhas_form))) (lhas_form : K.lookup fhas_form = some ⟨ochas_form, odhas_form, .func (PySem.W.fnOf "has_form" "has_form" (defArgs K12.s_has_form) (defBody K12.s_has_form) (defScope K12.s_has_form) .none kVhas_form dchas_form pmhas_form anhas_form cdhas_form cthas_form), slhas_form⟩) (chas_form : PySem.W.codeIn K cdhas_form "has_form" = true) (khas_form : PySem.W.keepIn K (.ref fhas_form) = true)
    (ais_fact : PySem.W.nsIn K mainGlobals "is_fact" = some (some (.ref fis_fact))) (lis_fact : K.lookup fis_fact = some ⟨ocis_fact, odis_fact, .func (PySem.W.fnOf "is_fact" "is_fact" (defArgs K12.s_is_fact) (defBody K12.s_is_fact) (defScope K12.s_is_fact) .none kVis_fact dcis_fact pmis_fact anis_fact cdis_fact ctis_fact), slis_fact⟩) (cis_fact : PySem.W.codeIn K cdis_fact "is_fact" = true) (kis_fact : PySem.W.keepIn K (.ref fis_fact) = true)
    (acut : PySem.W.nsIn K mainGlobals "cut" = some (some (.ref fcut))) (lcut : K.lookup fcut = some ⟨occut, odcut, .func (PySem.W.fnOf "cut" "cut" (defArgs K12.s_cut) (defBody K12.s_cut) (defScope K12.s_cut) .none kVcut dccut pmcut ancut cdcut ctcut), slcut⟩) (ccut : PySem.W.codeIn K cdcut "cut" = true) (kcut : PySem.W.keepIn K (.ref fcut) = true)
    (achanged : PySem.W.nsIn K mainGlobals "changed" = some (some (.ref fchanged))) (lchanged : K.lookup fchanged = some ⟨occhanged, odchanged, .func (PySem.W.fnOf "changed" "changed" (defArgs K12.s_changed) (defBody K12.s_changed) (defScope K12.s_changed) .none kVchanged dcchanged pmchanged anchanged cdchanged ctchanged), slchanged⟩) (cchanged : PySem.W.codeIn K cdchanged "changed" = true) (kchanged : PySem.W.keepIn K (.ref fchanged) = true)
    (afact_renamed : PySem.W.nsIn K mainGlobals "fact_renamed" = some (some (.ref ffact_renamed))) (lfact_renamed : K.lookup ffact_renamed = some ⟨ocfact_renamed, odfact_renamed, .func (PySem.W.fnOf "fact_renamed" "fact_renamed" (defArgs K12.s_fact_renamed) (defBody K12.s_fact_renamed) (defScope K12.s_fact_renamed) .none kVfact_renamed dcfact_renamed pmfact_renamed anfact_renamed cdfact_renamed ctfact_renamed), slfact_renamed⟩) (cfact_renamed : PySem.W.codeIn K cdfact_renamed "fact_renamed" = true) (kfact_renamed : PySem.W.keepIn K (.ref ffact_renamed) = true)
    (afact_renamed_by : PySem.W.nsIn K mainGlobals "fact_renamed_by" = some (some (.ref ffact_renamed_by))) (lfact_renamed_by : K.lookup ffact_renamed_by = some ⟨ocfact_renamed_by, odfact_renamed_by, .func (PySem.W.fnOf "fact_renamed_by" "fact_renamed_by" (defArgs K12.s_fact_renamed_by) (defBody K12.s_fact_renamed_by) (defScope K12.s_fact_renamed_by) .none kVfact_renamed_by dcfact_renamed_by pmfact_renamed_by anfact_renamed_by cdfact_renamed_by ctfact_renamed_by), slfact_renamed_by⟩) (cfact_renamed_by : PySem.W.codeIn K cdfact_renamed_by "fact_renamed_by" = true) (kfact_renamed_by : PySem.W.keepIn K (.ref ffact_renamed_by) = true)
    (acheck_fact : PySem.W.nsIn K mainGlobals "check_fact" = some (some (.ref fcheck_fact))) (lcheck_fact : K.lookup fcheck_fact = some ⟨occheck_fact, odcheck_fact, .func (PySem.W.fnOf "check_fact" "check_fact" (defArgs K12.s_check_fact) (defBody K12.s_check_fact) (defScope K12.s_check_fact) .none kVcheck_fact dccheck_fact pmcheck_fact ancheck_fact cdcheck_fact ctcheck_fact), slcheck_fact⟩) (ccheck_fact : PySem.W.codeIn K cdcheck_fact "check_fact" = true) (kcheck_fact : PySem.W.keepIn K (.ref fcheck_fact) = true)
    (ais_couple : PySem.W.nsIn K mainGlobals "is_couple" = some (some (.ref fis_couple))) (lis_couple : K.lookup fis_couple = some ⟨ocis_couple, odis_couple, .func (PySem.W.fnOf "is_couple" "is_couple" (defArgs K12.s_is_couple) (defBody K12.s_is_couple) (defScope K12.s_is_couple) .none kVis_couple dcis_couple pmis_couple anis_couple cdis_couple ctis_couple), slis_couple⟩) (cis_couple : PySem.W.codeIn K cdis_couple "is_couple" = true) (kis_couple : PySem.W.keepIn K (.ref fis_couple) = true)
    (aare_couples : PySem.W.nsIn K mainGlobals "are_couples" = some (some (.ref fare_couples))) (lare_couples : K.lookup fare_couples = some ⟨ocare_couples, odare_couples, .func (PySem.W.fnOf "are_couples" "are_couples" (defArgs K12.s_are_couples) (defBody K12.s_are_couples) (defScope K12.s_are_couples) .none kVare_couples dcare_couples pmare_couples anare_couples cdare_couples ctare_couples), slare_couples⟩) (care_couples : PySem.W.codeIn K cdare_couples "are_couples" = true) (kare_couples : PySem.W.keepIn K (.ref fare_couples) = true)
    (ais_ordered : PySem.W.nsIn K mainGlobals "is_ordered" = some (some (.ref fis_ordered))) (lis_ordered : K.lookup fis_ordered = some ⟨ocis_ordered, odis_ordered, .func (PySem.W.fnOf "is_ordered" "is_ordered" (defArgs K12.s_is_ordered) (defBody K12.s_is_ordered) (defScope K12.s_is_ordered) .none kVis_ordered dcis_ordered pmis_ordered anis_ordered cdis_ordered ctis_ordered), slis_ordered⟩) (cis_ordered : PySem.W.codeIn K cdis_ordered "is_ordered" = true) (kis_ordered : PySem.W.keepIn K (.ref fis_ordered) = true)
    (akey_of : PySem.W.nsIn K mainGlobals "key_of" = some (some (.ref fkey_of))) (lkey_of : K.lookup fkey_of = some ⟨ockey_of, odkey_of, .func (PySem.W.fnOf "key_of" "key_of" (defArgs K12.s_key_of) (defBody K12.s_key_of) (defScope K12.s_key_of) .none kVkey_of dckey_of pmkey_of ankey_of cdkey_of ctkey_of), slkey_of⟩) (ckey_of : PySem.W.codeIn K cdkey_of "key_of" = true) (kkey_of : PySem.W.keepIn K (.ref fkey_of) = true)
    (asides_of : PySem.W.nsIn K mainGlobals "sides_of" = some (some (.ref fsides_of))) (lsides_of : K.lookup fsides_of = some ⟨ocsides_of, odsides_of, .func (PySem.W.fnOf "sides_of" "sides_of" (defArgs K12.s_sides_of) (defBody K12.s_sides_of) (defScope K12.s_sides_of) .none kVsides_of dcsides_of pmsides_of ansides_of cdsides_of ctsides_of), slsides_of⟩) (csides_of : PySem.W.codeIn K cdsides_of "sides_of" = true) (ksides_of : PySem.W.keepIn K (.ref fsides_of) = true)
    (apairs_in : PySem.W.nsIn K mainGlobals "pairs_in" = some (some (.ref fpairs_in))) (lpairs_in : K.lookup fpairs_in = some ⟨ocpairs_in, odpairs_in, .func (PySem.W.fnOf "pairs_in" "pairs_in" (defArgs K12.s_pairs_in) (defBody K12.s_pairs_in) (defScope K12.s_pairs_in) .none kVpairs_in dcpairs_in pmpairs_in anpairs_in cdpairs_in ctpairs_in), slpairs_in⟩) (cpairs_in : PySem.W.codeIn K cdpairs_in "pairs_in" = true) (kpairs_in : PySem.W.keepIn K (.ref fpairs_in) = true)
    (apairs_of : PySem.W.nsIn K mainGlobals "pairs_of" = some (some (.ref fpairs_of))) (lpairs_of : K.lookup fpairs_of = some ⟨ocpairs_of, odpairs_of, .func (PySem.W.fnOf "pairs_of" "pairs_of" (defArgs K12.s_pairs_of) (defBody K12.s_pairs_of) (defScope K12.s_pairs_of) .none kVpairs_of dcpairs_of pmpairs_of anpairs_of cdpairs_of ctpairs_of), slpairs_of⟩) (cpairs_of : PySem.W.codeIn K cdpairs_of "pairs_of" = true) (kpairs_of : PySem.W.keepIn K (.ref fpairs_of) = true)
    (afact_of : PySem.W.nsIn K mainGlobals "fact_of" = some (some (.ref ffact_of))) (lfact_of : K.lookup ffact_of = some ⟨ocfact_of, odfact_of, .func (PySem.W.fnOf "fact_of" "fact_of" (defArgs K12.s_fact_of) (defBody K12.s_fact_of) (defScope K12.s_fact_of) .none kVfact_of dcfact_of pmfact_of anfact_of cdfact_of ctfact_of), slfact_of⟩) (cfact_of : PySem.W.codeIn K cdfact_of "fact_of" = true) (kfact_of : PySem.W.keepIn K (.ref ffact_of) = true)
    (asays_nothing : PySem.W.nsIn K mainGlobals "says_nothing" = some (some (.ref fsays_nothing))) (lsays_nothing : K.lookup fsays_nothing = some ⟨ocsays_nothing, odsays_nothing, .func (PySem.W.fnOf "says_nothing" "says_nothing" (defArgs K12.s_says_nothing) (defBody K12.s_says_nothing) (defScope K12.s_says_nothing) .none kVsays_nothing dcsays_nothing pmsays_nothing ansays_nothing cdsays_nothing ctsays_nothing), slsays_nothing⟩) (csays_nothing : PySem.W.codeIn K cdsays_nothing "says_nothing" = true) (ksays_nothing : PySem.W.keepIn K (.ref fsays_nothing) = true)
    (a_law_dice : PySem.W.nsIn K mainGlobals "_law_dice" = some (some (.ref f_law_dice))) (l_law_dice : K.lookup f_law_dice = some ⟨oc_law_dice, od_law_dice, .func (PySem.W.fnOf "_law_dice" "_law_dice" (defArgs K12.s__law_dice) (defBody K12.s__law_dice) (defScope K12.s__law_dice) .none kV_law_dice dc_law_dice pm_law_dice an_law_dice cd_law_dice ct_law_dice), sl_law_dice⟩) (c_law_dice : PySem.W.codeIn K cd_law_dice "_law_dice" = true) (k_law_dice : PySem.W.keepIn K (.ref f_law_dice) = true)
    (a_law_roll : PySem.W.nsIn K mainGlobals "_law_roll" = some (some (.ref f_law_roll))) (l_law_roll : K.lookup f_law_roll = some ⟨oc_law_roll, od_law_roll, .func (PySem.W.fnOf "_law_roll" "_law_roll" (defArgs K12.s__law_roll) (defBody K12.s__law_roll) (defScope K12.s__law_roll) .none kV_law_roll dc_law_roll pm_law_roll an_law_roll cd_law_roll ct_law_roll), sl_law_roll⟩) (c_law_roll : PySem.W.codeIn K cd_law_roll "_law_roll" = true) (k_law_roll : PySem.W.keepIn K (.ref f_law_roll) = true)
    (a_law_pick : PySem.W.nsIn K mainGlobals "_law_pick" = some (some (.ref f_law_pick))) (l_law_pick : K.lookup f_law_pick = some ⟨oc_law_pick, od_law_pick, .func (PySem.W.fnOf "_law_pick" "_law_pick" (defArgs K12.s__law_pick) (defBody K12.s__law_pick) (defScope K12.s__law_pick) .none kV_law_pick dc_law_pick pm_law_pick an_law_pick cd_law_pick ct_law_pick), sl_law_pick⟩) (c_law_pick : PySem.W.codeIn K cd_law_pick "_law_pick" = true) (k_law_pick : PySem.W.keepIn K (.ref f_law_pick) = true)
    (a_law_mixed : PySem.W.nsIn K mainGlobals "_law_mixed" = some (some (.ref f_law_mixed))) (l_law_mixed : K.lookup f_law_mixed = some ⟨oc_law_mixed, od_law_mixed, .func (PySem.W.fnOf "_law_mixed" "_law_mixed" (defArgs K12.s__law_mixed) (defBody K12.s__law_mixed) (defScope K12.s__law_mixed) .none kV_law_mixed dc_law_mixed pm_law_mixed an_law_mixed cd_law_mixed ct_law_mixed), sl_law_mixed⟩) (c_law_mixed : PySem.W.codeIn K cd_law_mixed "_law_mixed" = true) (k_law_mixed : PySem.W.keepIn K (.ref f_law_mixed) = true)
    (a_law_text : PySem.W.nsIn K mainGlobals "_law_text" = some (some (.ref f_law_text))) (l_law_text : K.lookup f_law_text = some ⟨oc_law_text, od_law_text, .func (PySem.W.fnOf "_law_text" "_law_text" (defArgs K12.s__law_text) (defBody K12.s__law_text) (defScope K12.s__law_text) .none kV_law_text dc_law_text pm_law_text an_law_text cd_law_text ct_law_text), sl_law_text⟩) (c_law_text : PySem.W.codeIn K cd_law_text "_law_text" = true) (k_law_text : PySem.W.keepIn K (.ref f_law_text) = true)
    (a_law_below : PySem.W.nsIn K mainGlobals "_law_below" = some (some (.ref f_law_below))) (l_law_below : K.lookup f_law_below = some ⟨oc_law_below, od_law_below, .func (PySem.W.fnOf "_law_below" "_law_below" (defArgs K12.s__law_below) (defBody K12.s__law_below) (defScope K12.s__law_below) .none kV_law_below dc_law_below pm_law_below an_law_below cd_law_below ct_law_below), sl_law_below⟩) (c_law_below : PySem.W.codeIn K cd_law_below "_law_below" = true) (k_law_below : PySem.W.keepIn K (.ref f_law_below) = true)
    (a_law_pair : PySem.W.nsIn K mainGlobals "_law_pair" = some (some (.ref f_law_pair))) (l_law_pair : K.lookup f_law_pair = some ⟨oc_law_pair, od_law_pair, .func (PySem.W.fnOf "_law_pair" "_law_pair" (defArgs K12.s__law_pair) (defBody K12.s__law_pair) (defScope K12.s__law_pair) .none kV_law_pair dc_law_pair pm_law_pair an_law_pair cd_law_pair ct_law_pair), sl_law_pair⟩) (c_law_pair : PySem.W.codeIn K cd_law_pair "_law_pair" = true) (k_law_pair : PySem.W.keepIn K (.ref f_law_pair) = true)
    (a_law_terms_in : PySem.W.nsIn K mainGlobals "_law_terms_in" = some (some (.ref f_law_terms_in))) (l_law_terms_in : K.lookup f_law_terms_in = some ⟨oc_law_terms_in, od_law_terms_in, .func (PySem.W.fnOf "_law_terms_in" "_law_terms_in" (defArgs K12.s__law_terms_in) (defBody K12.s__law_terms_in) (defScope K12.s__law_terms_in) .none kV_law_terms_in dc_law_terms_in pm_law_terms_in an_law_terms_in cd_law_terms_in ct_law_terms_in), sl_law_terms_in⟩) (c_law_terms_in : PySem.W.codeIn K cd_law_terms_in "_law_terms_in" = true) (k_law_terms_in : PySem.W.keepIn K (.ref f_law_terms_in) = true)
    (a_law_names : PySem.W.nsIn K mainGlobals "_law_names" = some (some (.ref f_law_names))) (l_law_names : K.lookup f_law_names = some ⟨oc_law_names, od_law_names, .func (PySem.W.fnOf "_law_names" "_law_names" (defArgs K12.s__law_names) (defBody K12.s__law_names) (defScope K12.s__law_names) .none kV_law_names dc_law_names pm_law_names an_law_names cd_law_names ct_law_names), sl_law_names⟩) (c_law_names : PySem.W.codeIn K cd_law_names "_law_names" = true) (k_law_names : PySem.W.keepIn K (.ref f_law_names) = true)
    (a_law_term : PySem.W.nsIn K mainGlobals "_law_term" = some (some (.ref f_law_term))) (l_law_term : K.lookup f_law_term = some ⟨oc_law_term, od_law_term, .func (PySem.W.fnOf "_law_term" "_law_term" (defArgs K12.s__law_term) (defBody K12.s__law_term) (defScope K12.s__law_term) .none kV_law_term dc_law_term pm_law_term an_law_term cd_law_term ct_law_term), sl_law_term⟩) (c_law_term : PySem.W.codeIn K cd_law_term "_law_term" = true) (k_law_term : PySem.W.keepIn K (.ref f_law_term) = true)
    (a_law_drawn_pair : PySem.W.nsIn K mainGlobals "_law_drawn_pair" = some (some (.ref f_law_drawn_pair))) (l_law_drawn_pair : K.lookup f_law_drawn_pair = some ⟨oc_law_drawn_pair, od_law_drawn_pair, .func (PySem.W.fnOf "_law_drawn_pair" "_law_drawn_pair" (defArgs K12.s__law_drawn_pair) (defBody K12.s__law_drawn_pair) (defScope K12.s__law_drawn_pair) .none kV_law_drawn_pair dc_law_drawn_pair pm_law_drawn_pair an_law_drawn_pair cd_law_drawn_pair ct_law_drawn_pair), sl_law_drawn_pair⟩) (c_law_drawn_pair : PySem.W.codeIn K cd_law_drawn_pair "_law_drawn_pair" = true) (k_law_drawn_pair : PySem.W.keepIn K (.ref f_law_drawn_pair) = true)
    (a_law_drawn_fact : PySem.W.nsIn K mainGlobals "_law_drawn_fact" = some (some (.ref f_law_drawn_fact))) (l_law_drawn_fact : K.lookup f_law_drawn_fact = some ⟨oc_law_drawn_fact, od_law_drawn_fact, .func (PySem.W.fnOf "_law_drawn_fact" "_law_drawn_fact" (defArgs K12.s__law_drawn_fact) (defBody K12.s__law_drawn_fact) (defScope K12.s__law_drawn_fact) .none kV_law_drawn_fact dc_law_drawn_fact pm_law_drawn_fact an_law_drawn_fact cd_law_drawn_fact ct_law_drawn_fact), sl_law_drawn_fact⟩) (c_law_drawn_fact : PySem.W.codeIn K cd_law_drawn_fact "_law_drawn_fact" = true) (k_law_drawn_fact : PySem.W.keepIn K (.ref f_law_drawn_fact) = true)
    (a_law_at : PySem.W.nsIn K mainGlobals "_law_at" = some (some (.ref f_law_at))) (l_law_at : K.lookup f_law_at = some ⟨oc_law_at, od_law_at, .func (PySem.W.fnOf "_law_at" "_law_at" (defArgs K12.s__law_at) (defBody K12.s__law_at) (defScope K12.s__law_at) .none kV_law_at dc_law_at pm_law_at an_law_at cd_law_at ct_law_at), sl_law_at⟩) (c_law_at : PySem.W.codeIn K cd_law_at "_law_at" = true) (k_law_at : PySem.W.keepIn K (.ref f_law_at) = true)
    (a_law_value : PySem.W.nsIn K mainGlobals "_law_value" = some (some (.ref f_law_value))) (l_law_value : K.lookup f_law_value = some ⟨oc_law_value, od_law_value, .func (PySem.W.fnOf "_law_value" "_law_value" (defArgs K12.s__law_value) (defBody K12.s__law_value) (defScope K12.s__law_value) .none kV_law_value dc_law_value pm_law_value an_law_value cd_law_value ct_law_value), sl_law_value⟩) (c_law_value : PySem.W.codeIn K cd_law_value "_law_value" = true) (k_law_value : PySem.W.keepIn K (.ref f_law_value) = true)
    (a_law_true : PySem.W.nsIn K mainGlobals "_law_true" = some (some (.ref f_law_true))) (l_law_true : K.lookup f_law_true = some ⟨oc_law_true, od_law_true, .func (PySem.W.fnOf "_law_true" "_law_true" (defArgs K12.s__law_true) (defBody K12.s__law_true) (defScope K12.s__law_true) .none kV_law_true dc_law_true pm_law_true an_law_true cd_law_true ct_law_true), sl_law_true⟩) (c_law_true : PySem.W.codeIn K cd_law_true "_law_true" = true) (k_law_true : PySem.W.keepIn K (.ref f_law_true) = true)
    (a_law_due : PySem.W.nsIn K mainGlobals "_law_due" = some (some (.ref f_law_due))) (l_law_due : K.lookup f_law_due = some ⟨oc_law_due, od_law_due, .func (PySem.W.fnOf "_law_due" "_law_due" (defArgs K12.s__law_due) (defBody K12.s__law_due) (defScope K12.s__law_due) .none kV_law_due dc_law_due pm_law_due an_law_due cd_law_due ct_law_due), sl_law_due⟩) (c_law_due : PySem.W.codeIn K cd_law_due "_law_due" = true) (k_law_due : PySem.W.keepIn K (.ref f_law_due) = true)
    (a_law_second : PySem.W.nsIn K mainGlobals "_law_second" = some (some (.ref f_law_second))) (l_law_second : K.lookup f_law_second = some ⟨oc_law_second, od_law_second, .func (PySem.W.fnOf "_law_second" "_law_second" (defArgs K12.s__law_second) (defBody K12.s__law_second) (defScope K12.s__law_second) .none kV_law_second dc_law_second pm_law_second an_law_second cd_law_second ct_law_second), sl_law_second⟩) (c_law_second : PySem.W.codeIn K cd_law_second "_law_second" = true) (k_law_second : PySem.W.keepIn K (.ref f_law_second) = true)
    (a_law_cut_due : PySem.W.nsIn K mainGlobals "_law_cut_due" = some (some (.ref f_law_cut_due))) (l_law_cut_due : K.lookup f_law_cut_due = some ⟨oc_law_cut_due, od_law_cut_due, .func (PySem.W.fnOf "_law_cut_due" "_law_cut_due" (defArgs K12.s__law_cut_due) (defBody K12.s__law_cut_due) (defScope K12.s__law_cut_due) .none kV_law_cut_due dc_law_cut_due pm_law_cut_due an_law_cut_due cd_law_cut_due ct_law_cut_due), sl_law_cut_due⟩) (c_law_cut_due : PySem.W.codeIn K cd_law_cut_due "_law_cut_due" = true) (k_law_cut_due : PySem.W.keepIn K (.ref f_law_cut_due) = true)
    (a_law_drawn_world : PySem.W.nsIn K mainGlobals "_law_drawn_world" = some (some (.ref f_law_drawn_world))) (l_law_drawn_world : K.lookup f_law_drawn_world = some ⟨oc_law_drawn_world, od_law_drawn_world, .func (PySem.W.fnOf "_law_drawn_world" "_law_drawn_world" (defArgs K12.s__law_drawn_world) (defBody K12.s__law_drawn_world) (defScope K12.s__law_drawn_world) .none kV_law_drawn_world dc_law_drawn_world pm_law_drawn_world an_law_drawn_world cd_law_drawn_world ct_law_drawn_world), sl_law_drawn_world⟩) (c_law_drawn_world : PySem.W.codeIn K cd_law_drawn_world "_law_drawn_world" = true) (k_law_drawn_world : PySem.W.keepIn K (.ref f_law_drawn_world) = true)
    (a_law_cut_right : PySem.W.nsIn K mainGlobals "_law_cut_right" = some (some (.ref f_law_cut_right))) (l_law_cut_right : K.lookup f_law_cut_right = some ⟨oc_law_cut_right, od_law_cut_right, .func (PySem.W.fnOf "_law_cut_right" "_law_cut_right" (defArgs K12.s__law_cut_right) (defBody K12.s__law_cut_right) (defScope K12.s__law_cut_right) .none kV_law_cut_right dc_law_cut_right pm_law_cut_right an_law_cut_right cd_law_cut_right ct_law_cut_right), sl_law_cut_right⟩) (c_law_cut_right : PySem.W.codeIn K cd_law_cut_right "_law_cut_right" = true) (k_law_cut_right : PySem.W.keepIn K (.ref f_law_cut_right) = true)
    (a_law_put : PySem.W.nsIn K mainGlobals "_law_put" = some (some (.ref f_law_put))) (l_law_put : K.lookup f_law_put = some ⟨oc_law_put, od_law_put, .func (PySem.W.fnOf "_law_put" "_law_put" (defArgs K12.s__law_put) (defBody K12.s__law_put) (defScope K12.s__law_put) .none kV_law_put dc_law_put pm_law_put an_law_put cd_law_put ct_law_put), sl_law_put⟩) (c_law_put : PySem.W.codeIn K cd_law_put "_law_put" = true) (k_law_put : PySem.W.keepIn K (.ref f_law_put) = true)
    (a_law_changed_right : PySem.W.nsIn K mainGlobals "_law_changed_right" = some (some (.ref f_law_changed_right))) (l_law_changed_right : K.lookup f_law_changed_right = some ⟨oc_law_changed_right, od_law_changed_right, .func (PySem.W.fnOf "_law_changed_right" "_law_changed_right" (defArgs K12.s__law_changed_right) (defBody K12.s__law_changed_right) (defScope K12.s__law_changed_right) .none kV_law_changed_right dc_law_changed_right pm_law_changed_right an_law_changed_right cd_law_changed_right ct_law_changed_right), sl_law_changed_right⟩) (c_law_changed_right : PySem.W.codeIn K cd_law_changed_right "_law_changed_right" = true) (k_law_changed_right : PySem.W.keepIn K (.ref f_law_changed_right) = true)
    (a_law_other_names : PySem.W.nsIn K mainGlobals "_law_other_names" = some (some (.ref f_law_other_names))) (l_law_other_names : K.lookup f_law_other_names = some ⟨oc_law_other_names, od_law_other_names, .func (PySem.W.fnOf "_law_other_names" "_law_other_names" (defArgs K12.s__law_other_names) (defBody K12.s__law_other_names) (defScope K12.s__law_other_names) .none kV_law_other_names dc_law_other_names pm_law_other_names an_law_other_names cd_law_other_names ct_law_other_names), sl_law_other_names⟩) (c_law_other_names : PySem.W.codeIn K cd_law_other_names "_law_other_names" = true) (k_law_other_names : PySem.W.keepIn K (.ref f_law_other_names) = true)
    (a_law_renamed_right : PySem.W.nsIn K mainGlobals "_law_renamed_right" = some (some (.ref f_law_renamed_right))) (l_law_renamed_right : K.lookup f_law_renamed_right = some ⟨oc_law_renamed_right, od_law_renamed_right, .func (PySem.W.fnOf "_law_renamed_right" "_law_renamed_right" (defArgs K12.s__law_renamed_right) (defBody K12.s__law_renamed_right) (defScope K12.s__law_renamed_right) .none kV_law_renamed_right dc_law_renamed_right pm_law_renamed_right an_law_renamed_right cd_law_renamed_right ct_law_renamed_right), sl_law_renamed_right⟩) (c_law_renamed_right : PySem.W.codeIn K cd_law_renamed_right "_law_renamed_right" = true) (k_law_renamed_right : PySem.W.keepIn K (.ref f_law_renamed_right) = true)
    (alaw : PySem.W.nsIn K mainGlobals "law" = some (some (.ref flaw))) (llaw : K.lookup flaw = some ⟨oclaw, odlaw, .func (PySem.W.fnOf "law" "law" (defArgs K12.s_law) (defBody K12.s_law) (defScope K12.s_law) .none kVlaw dclaw pmlaw anlaw cdlaw ctlaw), sllaw⟩) (claw : PySem.W.codeIn K cdlaw "law" = true) (klaw : PySem.W.keepIn K (.ref flaw) = true)
    (zabs : PySem.W.nsIn K mainGlobals "abs" = some none)
    (zall : PySem.W.nsIn K mainGlobals "all" = some none)
    (zdict : PySem.W.nsIn K mainGlobals "dict" = some none)
    (zint : PySem.W.nsIn K mainGlobals "int" = some none)
    (zisinstance : PySem.W.nsIn K mainGlobals "isinstance" = some none)
    (zlen : PySem.W.nsIn K mainGlobals "len" = some none)
    (zlist : PySem.W.nsIn K mainGlobals "list" = some none)
    (zmax : PySem.W.nsIn K mainGlobals "max" = some none)
    (zmin : PySem.W.nsIn K mainGlobals "min" = some none)
    (zrange : PySem.W.nsIn K mainGlobals "range" = some none)
    (zset : PySem.W.nsIn K mainGlobals "set" = some none)
    (zsorted : PySem.W.nsIn K mainGlobals "sorted" = some none)
    (zstr : PySem.W.nsIn K mainGlobals "str" = some none)
    (ztuple : PySem.W.nsIn K mainGlobals "tuple" = some none)
    (zzip : PySem.W.nsIn K mainGlobals "zip" = some none)
    {CInvalidName : Addr} (nInvalidName : PySem.W.nsIn K mainGlobals "InvalidName" = some (some (.ref CInvalidName))) (xInvalidName : PySem.W.excIn K CInvalidName [.type "ValueError", .type "Exception", .type "BaseException", .type "object"] "ValueError.__new__" = true) (kInvalidName : PySem.W.keepIn K (.ref CInvalidName) = true) (bInvalidName : PySem.W.subIn K (.ref CInvalidName) (.type "BaseException") = some true) (tInvalidName : PySem.W.typeIn K (.ref CInvalidName) = some (.type "type")) (iInvalidName : PySem.W.isClsIn K CInvalidName = true) (sInvalidName : PySem.W.subIn K (.ref CInvalidName) (.ref CInvalidName) = some true)
    {CInvalidTerm : Addr} (nInvalidTerm : PySem.W.nsIn K mainGlobals "InvalidTerm" = some (some (.ref CInvalidTerm))) (xInvalidTerm : PySem.W.excIn K CInvalidTerm [.type "ValueError", .type "Exception", .type "BaseException", .type "object"] "ValueError.__new__" = true) (kInvalidTerm : PySem.W.keepIn K (.ref CInvalidTerm) = true) (bInvalidTerm : PySem.W.subIn K (.ref CInvalidTerm) (.type "BaseException") = some true) (tInvalidTerm : PySem.W.typeIn K (.ref CInvalidTerm) = some (.type "type")) (iInvalidTerm : PySem.W.isClsIn K CInvalidTerm = true) (sInvalidTerm : PySem.W.subIn K (.ref CInvalidTerm) (.ref CInvalidTerm) = some true)
    {CInvalidFact : Addr} (nInvalidFact : PySem.W.nsIn K mainGlobals "InvalidFact" = some (some (.ref CInvalidFact))) (xInvalidFact : PySem.W.excIn K CInvalidFact [.type "ValueError", .type "Exception", .type "BaseException", .type "object"] "ValueError.__new__" = true) (kInvalidFact : PySem.W.keepIn K (.ref CInvalidFact) = true) (bInvalidFact : PySem.W.subIn K (.ref CInvalidFact) (.type "BaseException") = some true) (tInvalidFact : PySem.W.typeIn K (.ref CInvalidFact) = some (.type "type")) (iInvalidFact : PySem.W.isClsIn K CInvalidFact = true) (sInvalidFact : PySem.W.subIn K (.ref CInvalidFact) (.ref CInvalidFact) = some true)
    {CInvalidOperation : Addr} (nInvalidOperation : PySem.W.nsIn K mainGlobals "InvalidOperation" = some (some (.ref CInvalidOperation))) (xInvalidOperation : PySem.W.excIn K CInvalidOperation [.type "ValueError", .type "Exception", .type "BaseException", .type "object"] "ValueError.__new__" = true) (kInvalidOperation : PySem.W.keepIn K (.ref CInvalidOperation) = true) (bInvalidOperation : PySem.W.subIn K (.ref CInvalidOperation) (.type "BaseException") = some true) (tInvalidOperation : PySem.W.typeIn K (.ref CInvalidOperation) = some (.type "type")) (iInvalidOperation : PySem.W.isClsIn K CInvalidOperation = true) (sInvalidOperation : PySem.W.subIn K (.ref CInvalidOperation) (.ref CInvalidOperation) = some true)
    {tMAX_PLACES : Tok} (zMAX_PLACES : PySem.W.nsIn K mainGlobals "MAX_PLACES" = some (some (.int 3 tMAX_PLACES)))
    {tLONGEST_NAME : Tok} (zLONGEST_NAME : PySem.W.nsIn K mainGlobals "LONGEST_NAME" = some (some (.int 8 tLONGEST_NAME)))
    : ∃ T : K12.Tx K mg, T.alaw = flaw ∧ T.dlaw = PySem.W.fnOf "law" "law" (defArgs K12.s_law) (defBody K12.s_law) (defScope K12.s_law) .none kVlaw dclaw pmlaw anlaw cdlaw ctlaw := by
  have Fpreorder := fun_mk (st := K12.s_preorder) lpreorder cpreorder kpreorder
  have Bpreorder := Fpreorder.binds (ps := ["terms"]) fun _ _ _ _ _ _ us hl => match us, hl with | [_], _ => rfl
  have Fwritten := fun_mk (st := K12.s_written) lwritten cwritten kwritten
  have Bwritten := Fwritten.binds (ps := ["term"]) fun _ _ _ _ _ _ us hl => match us, hl with | [_], _ => rfl
  have Fnumbered := fun_mk (st := K12.s_numbered) lnumbered cnumbered knumbered
  have Bnumbered := Fnumbered.binds (ps := ["parts"]) fun _ _ _ _ _ _ us hl => match us, hl with | [_], _ => rfl
  have Fnumbered_rows := fun_mk (st := K12.s_numbered_rows) lnumbered_rows cnumbered_rows knumbered_rows
  have Bnumbered_rows := Fnumbered_rows.binds (ps := ["parts"]) fun _ _ _ _ _ _ us hl => match us, hl with | [_], _ => rfl
  have Fput_in := fun_mk (st := K12.s_put_in) lput_in cput_in kput_in
  have Bput_in := Fput_in.binds (ps := ["term", "old", "new"]) fun _ _ _ _ _ _ us hl => match us, hl with | [_, _, _], _ => rfl
  have Fwith_names := fun_mk (st := K12.s_with_names) lwith_names cwith_names kwith_names
  have Bwith_names := Fwith_names.binds (ps := ["term", "names"]) fun _ _ _ _ _ _ us hl => match us, hl with | [_, _], _ => rfl
  have Fis_name := fun_mk (st := K12.s_is_name) lis_name cis_name kis_name
  have Bis_name := Fis_name.binds (ps := ["value"]) fun _ _ _ _ _ _ us hl => match us, hl with | [_], _ => rfl
  have Fis_term := fun_mk (st := K12.s_is_term) lis_term cis_term kis_term
  have Bis_term := Fis_term.binds (ps := ["value"]) fun _ _ _ _ _ _ us hl => match us, hl with | [_], _ => rfl
  have Fcheck_term := fun_mk (st := K12.s_check_term) lcheck_term ccheck_term kcheck_term
  have Bcheck_term := Fcheck_term.binds (ps := ["value"]) fun _ _ _ _ _ _ us hl => match us, hl with | [_], _ => rfl
  have Fcheck_renaming := fun_mk (st := K12.s_check_renaming) lcheck_renaming ccheck_renaming kcheck_renaming
  have Bcheck_renaming := Fcheck_renaming.binds (ps := ["places", "names"]) fun _ _ _ _ _ _ us hl => match us, hl with | [_, _], _ => rfl
  have Fjoint_places := fun_mk (st := K12.s_joint_places) ljoint_places cjoint_places kjoint_places
  have Bjoint_places := Fjoint_places.binds (ps := ["values"]) fun _ _ _ _ _ _ us hl => match us, hl with | [_], _ => rfl
  have Fhas_form := fun_mk (st := K12.s_has_form) lhas_form chas_form khas_form
  have Bhas_form := Fhas_form.binds (ps := ["value"]) fun _ _ _ _ _ _ us hl => match us, hl with | [_], _ => rfl
  have Fis_fact := fun_mk (st := K12.s_is_fact) lis_fact cis_fact kis_fact
  have Bis_fact := Fis_fact.binds (ps := ["value"]) fun _ _ _ _ _ _ us hl => match us, hl with | [_], _ => rfl
  have Fcut := fun_mk (st := K12.s_cut) lcut ccut kcut
  have Bcut := Fcut.binds (ps := ["fact", "second"]) fun _ _ _ _ _ _ us hl => match us, hl with | [_, _], _ => rfl
  have Fchanged := fun_mk (st := K12.s_changed) lchanged cchanged kchanged
  have Bchanged := Fchanged.binds (ps := ["fact", "old", "new"]) fun _ _ _ _ _ _ us hl => match us, hl with | [_, _, _], _ => rfl
  have Ffact_renamed := fun_mk (st := K12.s_fact_renamed) lfact_renamed cfact_renamed kfact_renamed
  have Ffact_renamed_by := fun_mk (st := K12.s_fact_renamed_by) lfact_renamed_by cfact_renamed_by kfact_renamed_by
  have Bfact_renamed_by := Ffact_renamed_by.binds (ps := ["fact", "names"]) fun _ _ _ _ _ _ us hl => match us, hl with | [_, _], _ => rfl
  have Fcheck_fact := fun_mk (st := K12.s_check_fact) lcheck_fact ccheck_fact kcheck_fact
  have Bcheck_fact := Fcheck_fact.binds (ps := ["value"]) fun _ _ _ _ _ _ us hl => match us, hl with | [_], _ => rfl
  have Fis_couple := fun_mk (st := K12.s_is_couple) lis_couple cis_couple kis_couple
  have Bis_couple := Fis_couple.binds (ps := ["value"]) fun _ _ _ _ _ _ us hl => match us, hl with | [_], _ => rfl
  have Fare_couples := fun_mk (st := K12.s_are_couples) lare_couples care_couples kare_couples
  have Bare_couples := Fare_couples.binds (ps := ["values"]) fun _ _ _ _ _ _ us hl => match us, hl with | [_], _ => rfl
  have Fis_ordered := fun_mk (st := K12.s_is_ordered) lis_ordered cis_ordered kis_ordered
  have Bis_ordered := Fis_ordered.binds (ps := ["couple"]) fun _ _ _ _ _ _ us hl => match us, hl with | [_], _ => rfl
  have Fkey_of := fun_mk (st := K12.s_key_of) lkey_of ckey_of kkey_of
  have Bkey_of := Fkey_of.binds (ps := ["couple"]) fun _ _ _ _ _ _ us hl => match us, hl with | [_], _ => rfl
  have Fsides_of := fun_mk (st := K12.s_sides_of) lsides_of csides_of ksides_of
  have Bsides_of := Fsides_of.binds (ps := ["couples"]) fun _ _ _ _ _ _ us hl => match us, hl with | [_], _ => rfl
  have Fpairs_in := fun_mk (st := K12.s_pairs_in) lpairs_in cpairs_in kpairs_in
  have Bpairs_in := Fpairs_in.binds (ps := ["fact"]) fun _ _ _ _ _ _ us hl => match us, hl with | [_], _ => rfl
  have Fpairs_of := fun_mk (st := K12.s_pairs_of) lpairs_of cpairs_of kpairs_of
  have Bpairs_of := Fpairs_of.binds (ps := ["couples"]) fun _ _ _ _ _ _ us hl => match us, hl with | [_], _ => rfl
  have Ffact_of := fun_mk (st := K12.s_fact_of) lfact_of cfact_of kfact_of
  have Bfact_of := Ffact_of.binds (ps := ["conclusion", "conditions"]) fun _ _ _ _ _ _ us hl => match us, hl with | [_, _], _ => rfl
  have Fsays_nothing := fun_mk (st := K12.s_says_nothing) lsays_nothing csays_nothing ksays_nothing
  have Bsays_nothing := Fsays_nothing.binds (ps := ["fact"]) fun _ _ _ _ _ _ us hl => match us, hl with | [_], _ => rfl
  have F_law_dice := fun_mk (st := K12.s__law_dice) l_law_dice c_law_dice k_law_dice
  have B_law_dice := F_law_dice.binds (ps := ["script", "spot"]) fun _ _ _ _ _ _ us hl => match us, hl with | [_, _], _ => rfl
  have F_law_roll := fun_mk (st := K12.s__law_roll) l_law_roll c_law_roll k_law_roll
  have B_law_roll := F_law_roll.binds (ps := ["dice", "top"]) fun _ _ _ _ _ _ us hl => match us, hl with | [_, _], _ => rfl
  have F_law_pick := fun_mk (st := K12.s__law_pick) l_law_pick c_law_pick k_law_pick
  have B_law_pick := F_law_pick.binds (ps := ["dice", "items"]) fun _ _ _ _ _ _ us hl => match us, hl with | [_, _], _ => rfl
  have F_law_mixed := fun_mk (st := K12.s__law_mixed) l_law_mixed c_law_mixed k_law_mixed
  have B_law_mixed := F_law_mixed.binds (ps := ["dice", "items"]) fun _ _ _ _ _ _ us hl => match us, hl with | [_, _], _ => rfl
  have F_law_text := fun_mk (st := K12.s__law_text) l_law_text c_law_text k_law_text
  have B_law_text := F_law_text.binds (ps := ["term"]) fun _ _ _ _ _ _ us hl => match us, hl with | [_], _ => rfl
  have F_law_below := fun_mk (st := K12.s__law_below) l_law_below c_law_below k_law_below
  have B_law_below := F_law_below.binds (ps := ["term"]) fun _ _ _ _ _ _ us hl => match us, hl with | [_], _ => rfl
  have F_law_pair := fun_mk (st := K12.s__law_pair) l_law_pair c_law_pair k_law_pair
  have B_law_pair := F_law_pair.binds (ps := ["one", "other"]) fun _ _ _ _ _ _ us hl => match us, hl with | [_, _], _ => rfl
  have F_law_terms_in := fun_mk (st := K12.s__law_terms_in) l_law_terms_in c_law_terms_in k_law_terms_in
  have B_law_terms_in := F_law_terms_in.binds (ps := ["facts"]) fun _ _ _ _ _ _ us hl => match us, hl with | [_], _ => rfl
  have F_law_names := fun_mk (st := K12.s__law_names) l_law_names c_law_names k_law_names
  have B_law_names := F_law_names.binds (ps := ["dice", "few"]) fun _ _ _ _ _ _ us hl => match us, hl with | [_, _], _ => rfl
  have F_law_term := fun_mk (st := K12.s__law_term) l_law_term c_law_term k_law_term
  have B_law_term := F_law_term.binds (ps := ["dice", "names", "deep"]) fun _ _ _ _ _ _ us hl => match us, hl with | [_, _, _], _ => rfl
  have F_law_drawn_pair := fun_mk (st := K12.s__law_drawn_pair) l_law_drawn_pair c_law_drawn_pair k_law_drawn_pair
  have B_law_drawn_pair := F_law_drawn_pair.binds (ps := ["dice", "names", "deep"]) fun _ _ _ _ _ _ us hl => match us, hl with | [_, _, _], _ => rfl
  have F_law_drawn_fact := fun_mk (st := K12.s__law_drawn_fact) l_law_drawn_fact c_law_drawn_fact k_law_drawn_fact
  have B_law_drawn_fact := F_law_drawn_fact.binds (ps := ["dice", "names", "deep", "most"]) fun _ _ _ _ _ _ us hl => match us, hl with | [_, _, _, _], _ => rfl
  have F_law_at := fun_mk (st := K12.s__law_at) l_law_at c_law_at k_law_at
  have B_law_at := F_law_at.binds (ps := ["world", "name", "things"]) fun _ _ _ _ _ _ us hl => match us, hl with | [_, _, _], _ => rfl
  have F_law_value := fun_mk (st := K12.s__law_value) l_law_value c_law_value k_law_value
  have B_law_value := F_law_value.binds (ps := ["world", "term"]) fun _ _ _ _ _ _ us hl => match us, hl with | [_, _], _ => rfl
  have F_law_true := fun_mk (st := K12.s__law_true) l_law_true c_law_true k_law_true
  have B_law_true := F_law_true.binds (ps := ["world", "fact"]) fun _ _ _ _ _ _ us hl => match us, hl with | [_, _], _ => rfl
  have F_law_due := fun_mk (st := K12.s__law_due) l_law_due c_law_due k_law_due
  have B_law_due := F_law_due.binds (ps := ["told", "raw"]) fun _ _ _ _ _ _ us hl => match us, hl with | [_, _], _ => rfl
  have F_law_second := fun_mk (st := K12.s__law_second) l_law_second c_law_second k_law_second
  have B_law_second := F_law_second.binds (ps := ["dice", "known", "first"]) fun _ _ _ _ _ _ us hl => match us, hl with | [_, _, _], _ => rfl
  have F_law_cut_due := fun_mk (st := K12.s__law_cut_due) l_law_cut_due c_law_cut_due k_law_cut_due
  have B_law_cut_due := F_law_cut_due.binds (ps := ["first", "second"]) fun _ _ _ _ _ _ us hl => match us, hl with | [_, _], _ => rfl
  have F_law_drawn_world := fun_mk (st := K12.s__law_drawn_world) l_law_drawn_world c_law_drawn_world k_law_drawn_world
  have B_law_drawn_world := F_law_drawn_world.binds (ps := ["dice", "known"]) fun _ _ _ _ _ _ us hl => match us, hl with | [_, _], _ => rfl
  have F_law_cut_right := fun_mk (st := K12.s__law_cut_right) l_law_cut_right c_law_cut_right k_law_cut_right
  have B_law_cut_right := F_law_cut_right.binds (ps := ["dice", "known"]) fun _ _ _ _ _ _ us hl => match us, hl with | [_, _], _ => rfl
  have F_law_put := fun_mk (st := K12.s__law_put) l_law_put c_law_put k_law_put
  have B_law_put := F_law_put.binds (ps := ["term", "old", "new"]) fun _ _ _ _ _ _ us hl => match us, hl with | [_, _, _], _ => rfl
  have F_law_changed_right := fun_mk (st := K12.s__law_changed_right) l_law_changed_right c_law_changed_right k_law_changed_right
  have B_law_changed_right := F_law_changed_right.binds (ps := ["dice", "known"]) fun _ _ _ _ _ _ us hl => match us, hl with | [_, _], _ => rfl
  have F_law_other_names := fun_mk (st := K12.s__law_other_names) l_law_other_names c_law_other_names k_law_other_names
  have B_law_other_names := F_law_other_names.binds (ps := ["term", "table"]) fun _ _ _ _ _ _ us hl => match us, hl with | [_, _], _ => rfl
  have F_law_renamed_right := fun_mk (st := K12.s__law_renamed_right) l_law_renamed_right c_law_renamed_right k_law_renamed_right
  have B_law_renamed_right := F_law_renamed_right.binds (ps := ["dice", "known"]) fun _ _ _ _ _ _ us hl => match us, hl with | [_, _], _ => rfl
  have Flaw := fun_mk (st := K12.s_law) llaw claw klaw
  have Blaw := Flaw.binds (ps := ["script"]) fun _ _ _ _ _ _ us hl => match us, hl with | [_], _ => rfl
  exact ⟨{ b_abs := PySem.W.mg_none_of X G zabs, b_all := PySem.W.mg_none_of X G zall, b_dict := PySem.W.mg_none_of X G zdict, b_int := PySem.W.mg_none_of X G zint, b_isinstance := PySem.W.mg_none_of X G zisinstance, b_len := PySem.W.mg_none_of X G zlen, b_list := PySem.W.mg_none_of X G zlist, b_max := PySem.W.mg_none_of X G zmax, b_min := PySem.W.mg_none_of X G zmin, b_range := PySem.W.mg_none_of X G zrange, b_set := PySem.W.mg_none_of X G zset, b_sorted := PySem.W.mg_none_of X G zsorted, b_str := PySem.W.mg_none_of X G zstr, b_tuple := PySem.W.mg_none_of X G ztuple, b_zip := PySem.W.mg_none_of X G zzip, CInvalidName := CInvalidName, gInvalidName := PySem.W.mg_of X G nInvalidName, xInvalidName := xInvalidName, kInvalidName := kInvalidName, bInvalidName := bInvalidName, tInvalidName := tInvalidName, eInvalidName := Kx.exm_self bInvalidName iInvalidName tInvalidName sInvalidName, CInvalidTerm := CInvalidTerm, gInvalidTerm := PySem.W.mg_of X G nInvalidTerm, xInvalidTerm := xInvalidTerm, kInvalidTerm := kInvalidTerm, bInvalidTerm := bInvalidTerm, tInvalidTerm := tInvalidTerm, eInvalidTerm := Kx.exm_self bInvalidTerm iInvalidTerm tInvalidTerm sInvalidTerm, CInvalidFact := CInvalidFact, gInvalidFact := PySem.W.mg_of X G nInvalidFact, xInvalidFact := xInvalidFact, kInvalidFact := kInvalidFact, bInvalidFact := bInvalidFact, tInvalidFact := tInvalidFact, eInvalidFact := Kx.exm_self bInvalidFact iInvalidFact tInvalidFact sInvalidFact, CInvalidOperation := CInvalidOperation, gInvalidOperation := PySem.W.mg_of X G nInvalidOperation, xInvalidOperation := xInvalidOperation, kInvalidOperation := kInvalidOperation, bInvalidOperation := bInvalidOperation, tInvalidOperation := tInvalidOperation, eInvalidOperation := Kx.exm_self bInvalidOperation iInvalidOperation tInvalidOperation sInvalidOperation, c_MAX_PLACES := ⟨_, PySem.W.mg_of X G zMAX_PLACES⟩, c_LONGEST_NAME := ⟨_, PySem.W.mg_of X G zLONGEST_NAME⟩, apreorder := fpreorder, dpreorder := _, fpreorder := Fpreorder, gpreorder := PySem.W.mg_of X G apreorder, npreorder := Bpreorder, awritten := fwritten, dwritten := _, fwritten := Fwritten, gwritten := PySem.W.mg_of X G awritten, nwritten := Bwritten, anumbered := fnumbered, dnumbered := _, fnumbered := Fnumbered, gnumbered := PySem.W.mg_of X G anumbered, nnumbered := Bnumbered, anumbered_rows := fnumbered_rows, dnumbered_rows := _, fnumbered_rows := Fnumbered_rows, gnumbered_rows := PySem.W.mg_of X G anumbered_rows, nnumbered_rows := Bnumbered_rows, aput_in := fput_in, dput_in := _, fput_in := Fput_in, gput_in := PySem.W.mg_of X G aput_in, nput_in := Bput_in, awith_names := fwith_names, dwith_names := _, fwith_names := Fwith_names, gwith_names := PySem.W.mg_of X G awith_names, nwith_names := Bwith_names, ais_name := fis_name, dis_name := _, fis_name := Fis_name, gis_name := PySem.W.mg_of X G ais_name, nis_name := Bis_name, ais_term := fis_term, dis_term := _, fis_term := Fis_term, gis_term := PySem.W.mg_of X G ais_term, nis_term := Bis_term, acheck_term := fcheck_term, dcheck_term := _, fcheck_term := Fcheck_term, gcheck_term := PySem.W.mg_of X G acheck_term, ncheck_term := Bcheck_term, acheck_renaming := fcheck_renaming, dcheck_renaming := _, fcheck_renaming := Fcheck_renaming, gcheck_renaming := PySem.W.mg_of X G acheck_renaming, ncheck_renaming := Bcheck_renaming, ajoint_places := fjoint_places, djoint_places := _, fjoint_places := Fjoint_places, gjoint_places := PySem.W.mg_of X G ajoint_places, njoint_places := Bjoint_places, ahas_form := fhas_form, dhas_form := _, fhas_form := Fhas_form, ghas_form := PySem.W.mg_of X G ahas_form, nhas_form := Bhas_form, ais_fact := fis_fact, dis_fact := _, fis_fact := Fis_fact, gis_fact := PySem.W.mg_of X G ais_fact, nis_fact := Bis_fact, acut := fcut, dcut := _, fcut := Fcut, gcut := PySem.W.mg_of X G acut, ncut := Bcut, achanged := fchanged, dchanged := _, fchanged := Fchanged, gchanged := PySem.W.mg_of X G achanged, nchanged := Bchanged, afact_renamed := ffact_renamed, dfact_renamed := _, ffact_renamed := Ffact_renamed, gfact_renamed := PySem.W.mg_of X G afact_renamed, afact_renamed_by := ffact_renamed_by, dfact_renamed_by := _, ffact_renamed_by := Ffact_renamed_by, gfact_renamed_by := PySem.W.mg_of X G afact_renamed_by, nfact_renamed_by := Bfact_renamed_by, acheck_fact := fcheck_fact, dcheck_fact := _, fcheck_fact := Fcheck_fact, gcheck_fact := PySem.W.mg_of X G acheck_fact, ncheck_fact := Bcheck_fact, ais_couple := fis_couple, dis_couple := _, fis_couple := Fis_couple, gis_couple := PySem.W.mg_of X G ais_couple, nis_couple := Bis_couple, aare_couples := fare_couples, dare_couples := _, fare_couples := Fare_couples, gare_couples := PySem.W.mg_of X G aare_couples, nare_couples := Bare_couples, ais_ordered := fis_ordered, dis_ordered := _, fis_ordered := Fis_ordered, gis_ordered := PySem.W.mg_of X G ais_ordered, nis_ordered := Bis_ordered, akey_of := fkey_of, dkey_of := _, fkey_of := Fkey_of, gkey_of := PySem.W.mg_of X G akey_of, nkey_of := Bkey_of, asides_of := fsides_of, dsides_of := _, fsides_of := Fsides_of, gsides_of := PySem.W.mg_of X G asides_of, nsides_of := Bsides_of, apairs_in := fpairs_in, dpairs_in := _, fpairs_in := Fpairs_in, gpairs_in := PySem.W.mg_of X G apairs_in, npairs_in := Bpairs_in, apairs_of := fpairs_of, dpairs_of := _, fpairs_of := Fpairs_of, gpairs_of := PySem.W.mg_of X G apairs_of, npairs_of := Bpairs_of, afact_of := ffact_of, dfact_of := _, ffact_of := Ffact_of, gfact_of := PySem.W.mg_of X G afact_of, nfact_of := Bfact_of, asays_nothing := fsays_nothing, dsays_nothing := _, fsays_nothing := Fsays_nothing, gsays_nothing := PySem.W.mg_of X G asays_nothing, nsays_nothing := Bsays_nothing, a_law_dice := f_law_dice, d_law_dice := _, f_law_dice := F_law_dice, g_law_dice := PySem.W.mg_of X G a_law_dice, n_law_dice := B_law_dice, a_law_roll := f_law_roll, d_law_roll := _, f_law_roll := F_law_roll, g_law_roll := PySem.W.mg_of X G a_law_roll, n_law_roll := B_law_roll, a_law_pick := f_law_pick, d_law_pick := _, f_law_pick := F_law_pick, g_law_pick := PySem.W.mg_of X G a_law_pick, n_law_pick := B_law_pick, a_law_mixed := f_law_mixed, d_law_mixed := _, f_law_mixed := F_law_mixed, g_law_mixed := PySem.W.mg_of X G a_law_mixed, n_law_mixed := B_law_mixed, a_law_text := f_law_text, d_law_text := _, f_law_text := F_law_text, g_law_text := PySem.W.mg_of X G a_law_text, n_law_text := B_law_text, a_law_below := f_law_below, d_law_below := _, f_law_below := F_law_below, g_law_below := PySem.W.mg_of X G a_law_below, n_law_below := B_law_below, a_law_pair := f_law_pair, d_law_pair := _, f_law_pair := F_law_pair, g_law_pair := PySem.W.mg_of X G a_law_pair, n_law_pair := B_law_pair, a_law_terms_in := f_law_terms_in, d_law_terms_in := _, f_law_terms_in := F_law_terms_in, g_law_terms_in := PySem.W.mg_of X G a_law_terms_in, n_law_terms_in := B_law_terms_in, a_law_names := f_law_names, d_law_names := _, f_law_names := F_law_names, g_law_names := PySem.W.mg_of X G a_law_names, n_law_names := B_law_names, a_law_term := f_law_term, d_law_term := _, f_law_term := F_law_term, g_law_term := PySem.W.mg_of X G a_law_term, n_law_term := B_law_term, a_law_drawn_pair := f_law_drawn_pair, d_law_drawn_pair := _, f_law_drawn_pair := F_law_drawn_pair, g_law_drawn_pair := PySem.W.mg_of X G a_law_drawn_pair, n_law_drawn_pair := B_law_drawn_pair, a_law_drawn_fact := f_law_drawn_fact, d_law_drawn_fact := _, f_law_drawn_fact := F_law_drawn_fact, g_law_drawn_fact := PySem.W.mg_of X G a_law_drawn_fact, n_law_drawn_fact := B_law_drawn_fact, a_law_at := f_law_at, d_law_at := _, f_law_at := F_law_at, g_law_at := PySem.W.mg_of X G a_law_at, n_law_at := B_law_at, a_law_value := f_law_value, d_law_value := _, f_law_value := F_law_value, g_law_value := PySem.W.mg_of X G a_law_value, n_law_value := B_law_value, a_law_true := f_law_true, d_law_true := _, f_law_true := F_law_true, g_law_true := PySem.W.mg_of X G a_law_true, n_law_true := B_law_true, a_law_due := f_law_due, d_law_due := _, f_law_due := F_law_due, g_law_due := PySem.W.mg_of X G a_law_due, n_law_due := B_law_due, a_law_second := f_law_second, d_law_second := _, f_law_second := F_law_second, g_law_second := PySem.W.mg_of X G a_law_second, n_law_second := B_law_second, a_law_cut_due := f_law_cut_due, d_law_cut_due := _, f_law_cut_due := F_law_cut_due, g_law_cut_due := PySem.W.mg_of X G a_law_cut_due, n_law_cut_due := B_law_cut_due, a_law_drawn_world := f_law_drawn_world, d_law_drawn_world := _, f_law_drawn_world := F_law_drawn_world, g_law_drawn_world := PySem.W.mg_of X G a_law_drawn_world, n_law_drawn_world := B_law_drawn_world, a_law_cut_right := f_law_cut_right, d_law_cut_right := _, f_law_cut_right := F_law_cut_right, g_law_cut_right := PySem.W.mg_of X G a_law_cut_right, n_law_cut_right := B_law_cut_right, a_law_put := f_law_put, d_law_put := _, f_law_put := F_law_put, g_law_put := PySem.W.mg_of X G a_law_put, n_law_put := B_law_put, a_law_changed_right := f_law_changed_right, d_law_changed_right := _, f_law_changed_right := F_law_changed_right, g_law_changed_right := PySem.W.mg_of X G a_law_changed_right, n_law_changed_right := B_law_changed_right, a_law_other_names := f_law_other_names, d_law_other_names := _, f_law_other_names := F_law_other_names, g_law_other_names := PySem.W.mg_of X G a_law_other_names, n_law_other_names := B_law_other_names, a_law_renamed_right := f_law_renamed_right, d_law_renamed_right := _, f_law_renamed_right := F_law_renamed_right, g_law_renamed_right := PySem.W.mg_of X G a_law_renamed_right, n_law_renamed_right := B_law_renamed_right, alaw := flaw, dlaw := _, flaw := Flaw, glaw := PySem.W.mg_of X G alaw, nlaw := Blaw }, rfl, rfl⟩

namespace K12
theorem gOf {P : Program} {w : World} {K : PySem.W.Frag} {mg : Str → Option Value} {base : Heap} {k : Nat} {f : Addr} {fd : FuncData} {ps : List Str} {sp : Sp} (F : FnOk P w K mg base CX0 k f fd ps sp) : FnG P w K mg base k f fd ps sp :=
  ⟨F.len, fun A outer s H args us vs Q E _ hr e0 b r h => F.run A outer s H args us vs Q E hr e0 b r h⟩
theorem ends {P : Program} {w : World} {K : PySem.W.Frag} {mg : Str → Option Value} {fa flaw : Addr} {kV dc pm cd ct : Value} {an : Option Addr}
    (hT : ∃ T : Tx K mg, T.alaw = flaw ∧ T.dlaw = PySem.W.fnOf "law" "law" (defArgs s_law) (defBody s_law) (defScope s_law) .none kV dc pm an cd ct) (hmg : mg "law" = some (.ref fa)) :
    ∃ fd : FuncData, (∀ (s : Shared) (u : Value), BindsTo s fd ⟨[u], []⟩ [("script", u)]) ∧ ∀ base : Heap, K.In base → base.Ns mainGlobals mg → FnG P w K mg base 20 fa fd ["script"] (spLaw K) := by
  obtain ⟨T, e1, e2⟩ := hT
  have z := T.glaw
  rw [hmg] at z
  cases z
  exact ⟨T.dlaw, fun s u => by rw [e2]; exact .of_eq rfl, fun base _ _ => gOf (ok_law T)⟩
theorem walk {l : PySem.W.OpenLaw} {q : Program} {loose : List Str} {XP : (Str → Option Value) → Heap → Prop} {YP : World → Heap → Prop} {d : DefRec} {K : Params → PySem.W.Frag} (hn : l.most = some 63) (hdf : d.params.defaults = [])
    (hY : ∀ (w : World) (h : Heap), YP w h → (K w.params).In h)
    (F : ∀ (w : World) (mg : Str → Option Value) (fa : Addr) (h : Heap), (K w.params).In h → h.Ns mainGlobals mg → mg d.name = some (.ref fa) →
      ∃ fd : FuncData, (∀ (s : Shared) (u : Value), BindsTo s fd ⟨[u], []⟩ [("script", u)]) ∧ ∀ base : Heap, (K w.params).In base → base.Ns mainGlobals mg → FnG l.prog w (K w.params) mg base 20 fa fd ["script"] (spLaw (K w.params))) :
    PySem.W.WalkO q loose XP YP l.row.toRowW d [] (fun f vs => PySem.call f vs) :=
  walk_ofG (n := 63) (k := 20) (x := "script") (sp := fun w => spLaw (K w.params)) hn (by decide) hdf ⟨rfl, by decide, by decide⟩ hY F fun _ _ a ns _ _ hS => ⟨a, ns, rfl, hS, fun _ => rfl⟩
end K12
open PySem PySem.W PyProof.Rows
set_option maxRecDepth 100000 in
set_option maxHeartbeats 0 in
theorem PySem.Challenge.cw_shownpart_k12_cuts_and_changes_holds : PySem.Challenge.rw_shownpart_k12_cuts_and_changes.Holds := by
  w_on; o_law; k_head; (case hw => w_witness2)
  k_fill
  refine K12.walk (l := PySem.Challenge.rw_shownpart_k12_cuts_and_changes) rfl rfl (fun w h Y => PySem.W.kIn_of Y) ?F
  case F =>
    intro w mg fa h KX G hmg
    refine' K12.ends (K12.tx_mk KX G ?apreorder ?lpreorder ?cpreorder ?kpreorder ?awritten ?lwritten ?cwritten ?kwritten ?anumbered ?lnumbered ?cnumbered ?knumbered ?anumbered_rows ?lnumbered_rows ?cnumbered_rows ?knumbered_rows ?aput_in ?lput_in ?cput_in ?kput_in ?awith_names ?lwith_names ?cwith_names ?kwith_names ?ais_name ?lis_name ?cis_name ?kis_name ?ais_term ?lis_term ?cis_term ?kis_term ?acheck_term ?lcheck_term ?ccheck_term ?kcheck_term ?acheck_renaming ?lcheck_renaming ?ccheck_renaming ?kcheck_renaming ?ajoint_places ?ljoint_places ?cjoint_places ?kjoint_places ?ahas_form ?lhas_form ?chas_form ?khas_form ?ais_fact ?lis_fact ?cis_fact ?kis_fact ?acut ?lcut ?ccut ?kcut ?achanged ?lchanged ?cchanged ?kchanged ?afact_renamed ?lfact_renamed ?cfact_renamed ?kfact_renamed ?afact_renamed_by ?lfact_renamed_by ?cfact_renamed_by ?kfact_renamed_by ?acheck_fact ?lcheck_fact ?ccheck_fact ?kcheck_fact ?ais_couple ?lis_couple ?cis_couple ?kis_couple ?aare_couples ?lare_couples ?care_couples ?kare_couples ?ais_ordered ?lis_ordered ?cis_ordered ?kis_ordered ?akey_of ?lkey_of ?ckey_of ?kkey_of ?asides_of ?lsides_of ?csides_of ?ksides_of ?apairs_in ?lpairs_in ?cpairs_in ?kpairs_in ?apairs_of ?lpairs_of ?cpairs_of ?kpairs_of ?afact_of ?lfact_of ?cfact_of ?kfact_of ?asays_nothing ?lsays_nothing ?csays_nothing ?ksays_nothing ?a_law_dice ?l_law_dice ?c_law_dice ?k_law_dice ?a_law_roll ?l_law_roll ?c_law_roll ?k_law_roll ?a_law_pick ?l_law_pick ?c_law_pick ?k_law_pick ?a_law_mixed ?l_law_mixed ?c_law_mixed ?k_law_mixed ?a_law_text ?l_law_text ?c_law_text ?k_law_text ?a_law_below ?l_law_below ?c_law_below ?k_law_below ?a_law_pair ?l_law_pair ?c_law_pair ?k_law_pair ?a_law_terms_in ?l_law_terms_in ?c_law_terms_in ?k_law_terms_in ?a_law_names ?l_law_names ?c_law_names ?k_law_names ?a_law_term ?l_law_term ?c_law_term ?k_law_term ?a_law_drawn_pair ?l_law_drawn_pair ?c_law_drawn_pair ?k_law_drawn_pair ?a_law_drawn_fact ?l_law_drawn_fact ?c_law_drawn_fact ?k_law_drawn_fact ?a_law_at ?l_law_at ?c_law_at ?k_law_at ?a_law_value ?l_law_value ?c_law_value ?k_law_value ?a_law_true ?l_law_true ?c_law_true ?k_law_true ?a_law_due ?l_law_due ?c_law_due ?k_law_due ?a_law_second ?l_law_second ?c_law_second ?k_law_second ?a_law_cut_due ?l_law_cut_due ?c_law_cut_due ?k_law_cut_due ?a_law_drawn_world ?l_law_drawn_world ?c_law_drawn_world ?k_law_drawn_world ?a_law_cut_right ?l_law_cut_right ?c_law_cut_right ?k_law_cut_right ?a_law_put ?l_law_put ?c_law_put ?k_law_put ?a_law_changed_right ?l_law_changed_right ?c_law_changed_right ?k_law_changed_right ?a_law_other_names ?l_law_other_names ?c_law_other_names ?k_law_other_names ?a_law_renamed_right ?l_law_renamed_right ?c_law_renamed_right ?k_law_renamed_right ?alaw ?llaw ?claw ?klaw ?zabs ?zall ?zdict ?zint ?zisinstance ?zlen ?zlist ?zmax ?zmin ?zrange ?zset ?zsorted ?zstr ?ztuple ?zzip ?nInvalidName ?xInvalidName ?kInvalidName ?bInvalidName ?tInvalidName ?iInvalidName ?sInvalidName ?nInvalidTerm ?xInvalidTerm ?kInvalidTerm ?bInvalidTerm ?tInvalidTerm ?iInvalidTerm ?sInvalidTerm ?nInvalidFact ?xInvalidFact ?kInvalidFact ?bInvalidFact ?tInvalidFact ?iInvalidFact ?sInvalidFact ?nInvalidOperation ?xInvalidOperation ?kInvalidOperation ?bInvalidOperation ?tInvalidOperation ?iInvalidOperation ?sInvalidOperation ?zMAX_PLACES ?zLONGEST_NAME) hmg
    (case apreorder => k_is); (case lpreorder => k_is); (case cpreorder => k_is); (case kpreorder => k_is); (case awritten => k_is); (case lwritten => k_is); (case cwritten => k_is); (case kwritten => k_is)
    (case anumbered => k_is); (case lnumbered => k_is); (case cnumbered => k_is); (case knumbered => k_is); (case anumbered_rows => k_is); (case lnumbered_rows => k_is); (case cnumbered_rows => k_is); (case knumbered_rows => k_is)
    (case aput_in => k_is); (case lput_in => k_is); (case cput_in => k_is); (case kput_in => k_is); (case awith_names => k_is); (case lwith_names => k_is); (case cwith_names => k_is); (case kwith_names => k_is)
    (case ais_name => k_is); (case lis_name => k_is); (case cis_name => k_is); (case kis_name => k_is); (case ais_term => k_is); (case lis_term => k_is); (case cis_term => k_is); (case kis_term => k_is)
    (case acheck_term => k_is); (case lcheck_term => k_is); (case ccheck_term => k_is); (case kcheck_term => k_is); (case acheck_renaming => k_is); (case lcheck_renaming => k_is); (case ccheck_renaming => k_is); (case kcheck_renaming => k_is)
    (case ajoint_places => k_is); (case ljoint_places => k_is); (case cjoint_places => k_is); (case kjoint_places => k_is); (case ahas_form => k_is); (case lhas_form => k_is); (case chas_form => k_is); (case khas_form => k_is)
    (case ais_fact => k_is); (case lis_fact => k_is); (case cis_fact => k_is); (case kis_fact => k_is); (case acut => k_is); (case lcut => k_is); (case ccut => k_is); (case kcut => k_is)
    (case achanged => k_is); (case lchanged => k_is); (case cchanged => k_is); (case kchanged => k_is); (case afact_renamed => k_is); (case lfact_renamed => k_is); (case cfact_renamed => k_is); (case kfact_renamed => k_is)
    (case afact_renamed_by => k_is); (case lfact_renamed_by => k_is); (case cfact_renamed_by => k_is); (case kfact_renamed_by => k_is); (case acheck_fact => k_is); (case lcheck_fact => k_is); (case ccheck_fact => k_is); (case kcheck_fact => k_is)
    (case ais_couple => k_is); (case lis_couple => k_is); (case cis_couple => k_is); (case kis_couple => k_is); (case aare_couples => k_is); (case lare_couples => k_is); (case care_couples => k_is); (case kare_couples => k_is)
    (case ais_ordered => k_is); (case lis_ordered => k_is); (case cis_ordered => k_is); (case kis_ordered => k_is); (case akey_of => k_is); (case lkey_of => k_is); (case ckey_of => k_is); (case kkey_of => k_is)
    (case asides_of => k_is); (case lsides_of => k_is); (case csides_of => k_is); (case ksides_of => k_is); (case apairs_in => k_is); (case lpairs_in => k_is); (case cpairs_in => k_is); (case kpairs_in => k_is)
    (case apairs_of => k_is); (case lpairs_of => k_is); (case cpairs_of => k_is); (case kpairs_of => k_is); (case afact_of => k_is); (case lfact_of => k_is); (case cfact_of => k_is); (case kfact_of => k_is)
    (case asays_nothing => k_is); (case lsays_nothing => k_is); (case csays_nothing => k_is); (case ksays_nothing => k_is); (case a_law_dice => k_is); (case l_law_dice => k_is); (case c_law_dice => k_is); (case k_law_dice => k_is)
    (case a_law_roll => k_is); (case l_law_roll => k_is); (case c_law_roll => k_is); (case k_law_roll => k_is); (case a_law_pick => k_is); (case l_law_pick => k_is); (case c_law_pick => k_is); (case k_law_pick => k_is)
    (case a_law_mixed => k_is); (case l_law_mixed => k_is); (case c_law_mixed => k_is); (case k_law_mixed => k_is); (case a_law_text => k_is); (case l_law_text => k_is); (case c_law_text => k_is); (case k_law_text => k_is)
    (case a_law_below => k_is); (case l_law_below => k_is); (case c_law_below => k_is); (case k_law_below => k_is); (case a_law_pair => k_is); (case l_law_pair => k_is); (case c_law_pair => k_is); (case k_law_pair => k_is)
    (case a_law_terms_in => k_is); (case l_law_terms_in => k_is); (case c_law_terms_in => k_is); (case k_law_terms_in => k_is); (case a_law_names => k_is); (case l_law_names => k_is); (case c_law_names => k_is); (case k_law_names => k_is)
    (case a_law_term => k_is); (case l_law_term => k_is); (case c_law_term => k_is); (case k_law_term => k_is); (case a_law_drawn_pair => k_is); (case l_law_drawn_pair => k_is); (case c_law_drawn_pair => k_is); (case k_law_drawn_pair => k_is)
    (case a_law_drawn_fact => k_is); (case l_law_drawn_fact => k_is); (case c_law_drawn_fact => k_is); (case k_law_drawn_fact => k_is); (case a_law_at => k_is); (case l_law_at => k_is); (case c_law_at => k_is); (case k_law_at => k_is)
    (case a_law_value => k_is); (case l_law_value => k_is); (case c_law_value => k_is); (case k_law_value => k_is); (case a_law_true => k_is); (case l_law_true => k_is); (case c_law_true => k_is); (case k_law_true => k_is)
    (case a_law_due => k_is); (case l_law_due => k_is); (case c_law_due => k_is); (case k_law_due => k_is); (case a_law_second => k_is); (case l_law_second => k_is); (case c_law_second => k_is); (case k_law_second => k_is)
    (case a_law_cut_due => k_is); (case l_law_cut_due => k_is); (case c_law_cut_due => k_is); (case k_law_cut_due => k_is); (case a_law_drawn_world => k_is); (case l_law_drawn_world => k_is); (case c_law_drawn_world => k_is); (case k_law_drawn_world => k_is)
    (case a_law_cut_right => k_is); (case l_law_cut_right => k_is); (case c_law_cut_right => k_is); (case k_law_cut_right => k_is); (case a_law_put => k_is); (case l_law_put => k_is); (case c_law_put => k_is); (case k_law_put => k_is)
    (case a_law_changed_right => k_is); (case l_law_changed_right => k_is); (case c_law_changed_right => k_is); (case k_law_changed_right => k_is); (case a_law_other_names => k_is); (case l_law_other_names => k_is); (case c_law_other_names => k_is); (case k_law_other_names => k_is)
    (case a_law_renamed_right => k_is); (case l_law_renamed_right => k_is); (case c_law_renamed_right => k_is); (case k_law_renamed_right => k_is); (case alaw => k_is); (case llaw => k_is); (case claw => k_is); (case klaw => k_is)
    (case zabs => k_is); (case zall => k_is); (case zdict => k_is); (case zint => k_is); (case zisinstance => k_is); (case zlen => k_is); (case zlist => k_is); (case zmax => k_is)
    (case zmin => k_is); (case zrange => k_is); (case zset => k_is); (case zsorted => k_is); (case zstr => k_is); (case ztuple => k_is); (case zzip => k_is); (case nInvalidName => k_is)
    (case xInvalidName => k_exc); (case kInvalidName => k_is); (case bInvalidName => k_is); (case tInvalidName => k_is); (case iInvalidName => k_is); (case sInvalidName => first | rfl | k_is); (case nInvalidTerm => k_is); (case xInvalidTerm => k_exc)
    (case kInvalidTerm => k_is); (case bInvalidTerm => k_is); (case tInvalidTerm => k_is); (case iInvalidTerm => k_is); (case sInvalidTerm => first | rfl | k_is); (case nInvalidFact => k_is); (case xInvalidFact => k_exc); (case kInvalidFact => k_is)
    (case bInvalidFact => k_is); (case tInvalidFact => k_is); (case iInvalidFact => k_is); (case sInvalidFact => first | rfl | k_is); (case nInvalidOperation => k_is); (case xInvalidOperation => k_exc); (case kInvalidOperation => k_is); (case bInvalidOperation => k_is)
    (case tInvalidOperation => k_is); (case iInvalidOperation => k_is); (case sInvalidOperation => first | rfl | k_is); (case zMAX_PLACES => k_is); (case zLONGEST_NAME => k_is)
