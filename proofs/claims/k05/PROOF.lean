import PyProof.Rows.All
import Wide.All
import OpenK.AllK
import Wide.FinOn
import HandS.ForMost
import HandS.TupSets
import HandS.Strs
import KE.SortData
import HandS.IsInst
import HandS.SetKeys
import HandS.StrMore
import HandS.Star
import HandS.TupAny
import HandS.Wide
import HandS.Style
import HandS.GenList
import HandS.Codes
import HandS.SetFor
import HandS.Lambda
import HandS.TryMany
import HandS.ExcIs
import HandS.ReplaceLit
import HandS.ReplaceDef
import HandS.Text
import HandS.WordsExc
import HandS.TryOnly
import HandS.SetBool
import HandS.Walk
import KE.KParD
import HandS.CallLocal
import PyProof.StrBlock2
import KE.KDictItemsList
import KE.KDictZip
import HandS.Iter
import HandS.Exc
import HandS.Conv
import KE.GoesMore
import HandS.RepeatKit
import HandS.EndTab
import KE.KNestM
import PySem.Challenge.RW_shownpart_k05_errors_of_terms
set_option Elab.async false
set_option linter.all false
set_option maxRecDepth 100000
set_option maxHeartbeats 4000000
/-! Sets of tuples whose items are ints or texts: made from a list, and counted. -/
namespace Kx
open PySem PySem.Spec PyProof.Rows L2

/-- the tuple at b holds the keys k -/
def TupK (P : Program) (w : World) (h : Heap) (k : List Key) (b : Addr) : Prop := IsTupleKey (mixKind P w) h k b
def hsK (P : Program) (w : World) (k : List Key) : Int := tupleKeyHash (mixKind P w) k
abbrev Row := Addr × List Key
def rowsK (P : Program) (w : World) (L : List Row) : List (Int × Value) := L.map fun p => (hsK P w p.2, Value.ref p.1)
def keysK (L : List Row) : List (List Key) := L.map Prod.snd

/-- the c-th step of the way of h -/
def stp (t : SetTable) (h : Int) (c : Nat) : SetTable.Probe := nth t.mask (runAt t.mask (SetTable.bits h % (t.mask + 1)) (SetTable.bits h)) c
theorem stp_j (t : SetTable) (h : Int) (c : Nat) : (stp t h c).j = way t.mask h c := rfl
theorem stp_add (t : SetTable) (h : Int) (c q : Nat) : nth t.mask (stp t h c) q = stp t h (c + q) := (nth_add t.mask c _ q).symm
theorem nth_nodummy (m : Nat) : ∀ (n : Nat) (p : SetTable.Probe), p.dummy = none → (nth m p n).dummy = none := by
  intro n
  induction n with
  | zero => exact fun p h => h
  | succ n ih =>
    intro p h
    apply ih (adv m p)
    show (adv m p).dummy = none
    simp only [adv]
    split <;> exact h
theorem stp_nodummy (t : SetTable) (h : Int) (c : Nat) : (stp t h c).dummy = none := nth_nodummy _ c _ rfl

section
variable {P : Program} {w : World} {A : Around} {E : Value → Shared → Prop} {s : Shared}

theorem items_plain {k : List Key} {vs : List Value} (h : ItemsAre (mixKind P w) k vs) :
    ∀ v, v ∈ vs → (∃ i t, v = Value.int i t) ∨ ∃ x t, v = Value.str x t := by
  induction h with
  | nil => exact fun v hv => nomatch hv
  | cons h1 _ ih =>
    intro v hv
    rcases List.mem_cons.mp hv with e | hv
    · subst e
      rcases keyIs_shape h1 with ⟨i, t, _, e⟩ | ⟨x, t, _, e⟩
      · exact .inl ⟨i, t, e⟩
      · exact .inr ⟨x, t, e⟩
    · exact ih v hv
/-- a tuple of ints and texts is of no class statement -/
theorem ofClass_tupK {k : List Key} {b : Addr} {Q : Bool → Shared → Prop} (hk : TupK P w s.heap k b) (q : Q false s) :
    wpAny (model P w) A (ofAClassStatement 8 (.ref b)) Q E s := by
  have ty := IsTupleKey.typeIs hk
  obtain ⟨o, its, n, h1, _, h2, h3⟩ := hk
  have pl := items_plain h3
  unfold ofAClassStatement
  apply wpAny_bind (wpAny_typeOf ty _)
  dsimp only
  have tt : (("tuple" : String) == "tuple") = true := by decide
  rw [if_pos tt]
  try apply wpAny_bind (wpAny_pure _)
  simp only [Bool.not_true, Bool.false_eq_true, if_false]
  show wpAny _ _ (seqItems? (.ref b) >>= _) _ _ s
  apply wpAny_bind (wpAny_seqItems h1 h2 _)
  dsimp only
  apply wpAny_bind
  show wpAny _ _ (forIn its _ _) _ _ s
  rw [← Array.forIn_toList]
  apply wpAny_forIn_list _ (fun rest r s' => r.1 = none ∧ s' = s ∧ ∀ v, v ∈ rest → (∃ i t, v = Value.int i t) ∨ ∃ x t, v = Value.str x t) _ _ _ _ _ ⟨rfl, rfl, pl⟩
  · rintro v rest r s' ⟨hr, rfl, hall⟩
    have e0 : ofAClassStatement 7 v = pure false := by
      rcases hall v List.mem_cons_self with ⟨i, t, rfl⟩ | ⟨x, t, rfl⟩ <;> rfl
    rw [e0]
    apply wpAny_bind (wpAny_pure _)
    simp only [Bool.false_eq_true, if_false]
    exact wpAny_pure ⟨rfl, rfl, fun u hu => hall u (List.mem_cons_of_mem _ hu)⟩
  · rintro ⟨r1, r2⟩ s' ⟨hr, rfl, _⟩
    cases hr
    exact wpAny_pure q
/-- whatever is said of a tuple's hash: a Bool, and the state stays -/
theorem byValue_tupK {k : List Key} {b : Addr} {Q : Bool → Shared → Prop} (hk : TupK P w s.heap k b) (q : ∀ c, Q c s) :
    wpAny (model P w) A (hashByValue 8 (.ref b)) Q E s := by
  have ty := IsTupleKey.typeIs hk
  obtain ⟨o, its, n, h1, _, h2, h3⟩ := hk
  have pl := items_plain h3
  unfold hashByValue
  apply wpAny_bind (wpAny_specialOf ty F.slot_tuple_hash.lookup _)
  show wpAny _ _ (seqItems? (.ref b) >>= _) _ _ s
  apply wpAny_bind (wpAny_seqItems h1 h2 _)
  apply wpAny_bind
  show wpAny _ _ (forIn its _ _) _ _ s
  rw [← Array.forIn_toList]
  apply wpAny_forIn_list _ (fun rest r s' => s' = s ∧ ∀ v, v ∈ rest → (∃ i t, v = Value.int i t) ∨ ∃ x t, v = Value.str x t) _ _ _ _ _ ⟨rfl, pl⟩
  · rintro v rest r s' ⟨rfl, hall⟩
    have tl : ∀ v, v ∈ rest → (∃ i t, v = Value.int i t) ∨ ∃ x t, v = Value.str x t := fun u hu => hall u (List.mem_cons_of_mem _ hu)
    have e0 : ∃ c, hashByValue 7 v = pure c := by
      rcases hall v List.mem_cons_self with ⟨i, t, rfl⟩ | ⟨x, t, rfl⟩
      · exact ⟨true, rfl⟩
      · exact ⟨false, rfl⟩
    obtain ⟨c, e0⟩ := e0
    rw [e0]
    apply wpAny_bind (wpAny_pure _)
    cases c
    · simp only [Bool.not_false, if_true]
      exact wpAny_pure (wpAny_pure (q _))
    · simp only [Bool.not_true, Bool.false_eq_true, if_false]
      exact wpAny_pure ⟨rfl, tl⟩
  · rintro ⟨r1, r2⟩ s' ⟨rfl, _⟩
    cases r1
    · exact wpAny_pure (q _)
    · exact wpAny_pure (q _)
/-- a search among such tuples shows nothing -/
theorem unseen_tupK {k : List Key} {b : Addr} {Q : Bool → Shared → Prop} (hk : TupK P w s.heap k b) {ys : List Value}
    (hy : ∀ y, y ∈ ys → ∃ k' c, y = Value.ref c ∧ TupK P w s.heap k' c) (q : Q false s) : wpAny (model P w) A (searchCouldBeSeen (.ref b) ys) Q E s := by
  unfold searchCouldBeSeen
  apply wpAny_bind
  apply wpAny_forIn_list _ (fun rest r s' => r.1 = none ∧ s' = s ∧ ∀ y, y ∈ rest → ∃ k' c, y = Value.ref c ∧ TupK P w s.heap k' c) _ _ _ _ _ ⟨rfl, rfl, hy⟩
  · rintro v rest r s' ⟨hr, rfl, hall⟩
    obtain ⟨k', c, rfl, hc⟩ := hall v List.mem_cons_self
    have tl : ∀ y, y ∈ rest → ∃ k' c, y = Value.ref c ∧ TupK P w s'.heap k' c := fun u hu => hall u (List.mem_cons_of_mem _ hu)
    have fin : wpAny (model P w) A (pure (ForInStep.yield r)) (fun x s1 => match x with
      | .yield b' => b'.1 = none ∧ s1 = s' ∧ ∀ y, y ∈ rest → ∃ k' c, y = Value.ref c ∧ TupK P w s'.heap k' c
      | .done _ => False) E s' := wpAny_pure ⟨hr, rfl, tl⟩
    dsimp only
    by_cases hv : (b == c || (carriedByValue (.ref b) && carriedByValue (.ref c))) = true
    · exact wp_if_pos hv (wpAny_pure ⟨rfl, rfl, tl⟩)
    · apply wp_if_neg hv
      apply wpAny_bind (wpAny_eqIsQuiet_tuple hk _)
      simp only [Bool.not_true, Bool.false_eq_true, if_false]
      apply wpAny_bind (wpAny_eqIsQuiet_tuple hc _)
      simp only [Bool.not_true, Bool.false_eq_true, if_false]
      apply wpAny_bind (ofClass_tupK hk _)
      simp only [Bool.false_eq_true, if_false]
      apply wpAny_bind (ofClass_tupK hc _)
      simp only [Bool.false_eq_true, if_false]
      exact wpAny_pure ⟨rfl, rfl, tl⟩
  · rintro ⟨r1, r2⟩ s' ⟨hr, rfl, _⟩
    cases hr
    exact wpAny_pure q

/-- the set at a: its members, its table -/
structure SetK (P : Program) (w : World) (h : Heap) (a : Addr) (L : List Row) (es : Array (Int × Value)) (ep : Nat) (t : SetTable) : Prop where
  obj : ∃ o, h.get? a = some o ∧ o.ExactSet ∧ o.data = .set es ep t
  rws : es.toList = rowsK P w L
  tbl : TabOk t (L.map fun p => hsK P w p.2)
  uni : (keysK L).Nodup
  mem : ∀ p, p ∈ L → TupK P w h p.2 p.1
  rom : L.length * 5 < t.mask * 3
  low : L.length < 64
variable {a : Addr} {L : List Row} {es : Array (Int × Value)} {ep : Nat} {t : SetTable}
theorem rowsK_len {es : Array (Int × Value)} {L : List Row} (h : es.toList = rowsK P w L) : es.size = L.length := by
  have e : es.toList.length = (rowsK P w L).length := by rw [h]
  simpa [rowsK] using e
theorem rowsK_get {es : Array (Int × Value)} {L : List Row} (h : es.toList = rowsK P w L) {i : Nat} {p : Row} (hp : L[i]? = some p) : es[i]? = some (hsK P w p.2, Value.ref p.1) := by
  have e : es.toList[i]? = some (hsK P w p.2, Value.ref p.1) := by
    rw [h]
    simp [rowsK, hp]
  rwa [Array.getElem?_toList] at e
theorem fits_of {t : SetTable} {n m : Nat} (h1 : t.dummies = #[]) (h2 : t.place.size = n) (h3 : n ≤ t.mask) : t.fits n = true := by
  simp only [SetTable.fits, SetTable.fill, h1, h2]
  simp
  exact h3
theorem SetK.fit (R : SetK P w s.heap a L es ep t) : t.fits es.size = true := by
  have z := rowsK_len R.rws
  have y := R.tbl.sz
  have x := R.rom
  rw [List.length_map] at y
  exact fits_of (m := 0) R.tbl.dm (by omega) (by omega)
theorem SetK.stays (R : SetK P w s.heap a L es ep t) : ¬ t.gaveWay = true := by
  simp only [SetTable.gaveWay, mask_odd R.tbl.mok]
  decide

/-- a search, from the c-th step of the way on; K: the first empty slot -/
theorem searchK (R : SetK P w s.heap a L es ep t) {x : Addr} {k : List Key} (hx : TupK P w s.heap k x) (hu : A.units < cLine) {K : Nat} (hf : K < 10 * SetTable.turns t.mask)
    (hK : way t.mask (hsK P w k) K ∉ t.place.toList) (hb : ∀ c, c < K → way t.mask (hsK P w k) c ∈ t.place.toList) {Q : SetFound → Shared → Prop}
    (yes : k ∈ keysK L → Q (.there none) s) (no : k ∉ keysK L → Q (.free (way t.mask (hsK P w k) K) false) s) :
    ∀ (f c : Nat) (st : Option SetTable.Probe), st.getD (t.probeStart (hsK P w k)) = stp t (hsK P w k) c → c ≤ K → K - c < f →
      (∀ (i : Nat) p, L[i]? = some p → p.2 = k → ∃ d, c ≤ d ∧ d < K ∧ t.place.toList[i]? = some (way t.mask (hsK P w k) d)) →
      wpAny (model P w) A (setSearchFrom a (.ref x) (hsK P w k) true f st) Q E s := by
  intro f
  induction f with
  | zero => exact fun c st _ _ h => absurd h (Nat.not_lt_zero _)
  | succ f ih =>
  intro c st hst hc hlt hre
  obtain ⟨o, ho, hex, hd⟩ := R.obj
  generalize hH : hsK P w k = Z at *
  rw [setSearchFrom_succ]
  apply wpAny_bind (wpAny_setState_of ho hd R.fit _)
  dsimp only
  apply wp_if_neg R.stays
  try apply wpAny_bind (wpAny_pure _)
  have jw : ∀ q, (nth t.mask (stp t Z c) q).j = way t.mask Z (c + q) := fun q => by rw [stp_add, stp_j]
  have eK : c + (K - c) = K := by omega
  have at_ : ∀ (i : Nat) p, L[i]? = some p → (fun i => (es[i]?.map (·.1)).getD 0) i = hsK P w p.2 := fun i p hp => by
    simp only [rowsK_get R.rws hp, Option.map_some, Option.getD_some]
  rcases go_spec t R.tbl.ris R.tbl.dm (fun i => (es[i]?.map (·.1)).getD 0) Z (10 * SetTable.turns t.mask) (K - c) (stp t Z c) (stp_nodummy t Z c) (by omega)
      (fun q hq => by rw [jw]; exact hb _ (by omega)) (by rw [jw, eK]; exact hK) with ⟨q, i, hq, hi, hh, hno, hpr⟩ | ⟨hno, hpr⟩
  · -- a candidate at the (c + q)-th step
    rw [jw] at hi
    have pr : t.probe (fun i => (es[i]?.map (·.1)).getD 0) Z (st.getD (t.probeStart Z)) = some (.candidate (way t.mask Z (c + q)) i (stp t Z (c + (q + 1)))) := by
      rw [hst, ← jw, ← stp_add]
      exact hpr
    rw [pr]
    dsimp only
    have hil : i < L.length := by
      have h1 := (List.getElem?_eq_some_iff.mp hi).1
      have h2 := R.tbl.sz
      rw [List.length_map] at h2
      rw [Array.length_toList, h2] at h1
      exact h1
    obtain ⟨p, hp⟩ : ∃ p, L[i]? = some p := ⟨L[i], List.getElem?_eq_getElem hil⟩
    have pm : p ∈ L := List.mem_of_getElem? hp
    have pe := rowsK_get R.rws hp
    have sl : t.slot (way t.mask Z (c + q)) = .live i := slot_live R.tbl.ris hi
    have go : wpAny (model P w) A (searchRest a (.ref x) Z true f es t (way t.mask Z (c + q)) i (stp t Z (c + (q + 1)))) Q E s := by
      unfold searchRest
      rw [pe]
      dsimp only
      apply wpAny_bind (wpAny_holding (wpAny_eqBool_tuple hu (R.mem p pm) hx _))
      apply wpAny_bind (wpAny_setState_of ho hd R.fit _)
      dsimp only
      by_cases hpk : p.2 = k
      · exact wp_if_pos (by simp [hpk]) (wpAny_pure (yes (List.mem_map.mpr ⟨p, pm, hpk⟩)))
      · apply wp_if_neg (by simp [hpk])
        try apply wpAny_bind (wpAny_pure _)
        rw [sameMem]
        dsimp only
        simp only [if_true, sl, pe]
        apply wpAny_bind (wpAny_isSame_ref_self (wpAny_bind (wpAny_pure _)))
        simp only [if_true]
        apply wp_if_neg (by simp [hpk])
        apply ih (c + (q + 1)) _ rfl (by omega) (by omega)
        intro i0 p0 h0 hk0
        obtain ⟨d, d1, d2, d3⟩ := hre i0 p0 h0 hk0
        refine ⟨d, ?_, d2, d3⟩
        have z0 : hsK P w p0.2 = Z := by rw [hk0, hH]
        by_cases z : d < c + q
        · exact absurd ((at_ i0 p0 h0).trans z0) (hno (d - c) i0 (by omega) (by rw [jw, show c + (d - c) = d by omega]; exact d3))
        · by_cases y : d = c + q
          · subst y
            have s0 := slot_live R.tbl.ris d3
            rw [sl] at s0
            injection s0 with s0
            subst s0
            rw [hp] at h0
            exact absurd ((congrArg Prod.snd (Option.some.inj h0)).trans hk0) hpk
          · omega
    by_cases hl : t.led = true
    · apply wp_if_neg (by simp [hl])
      try apply wpAny_bind (wpAny_pure _)
      exact go
    · apply wp_if_pos (by simp [hl])
      apply wpAny_bind (unseen_tupK hx _ _)
      · intro y hy
        obtain ⟨e, he, rfl⟩ := List.mem_map.mp hy
        have he2 : e ∈ es.toList := by simpa using (by simpa using he : e ∈ es ∧ e.1 = Z).1
        rw [R.rws] at he2
        obtain ⟨p2, hp2, rfl⟩ := List.mem_map.mp he2
        exact ⟨p2.2, p2.1, rfl, R.mem p2 hp2⟩
      · apply wp_if_neg (by decide)
        try apply wpAny_bind (wpAny_pure _)
        exact go
  · -- the empty slot
    have pr : t.probe (fun i => (es[i]?.map (·.1)).getD 0) Z (st.getD (t.probeStart Z)) = some (.empty (way t.mask Z K) none) := by
      have e2 : (nth t.mask (stp t Z c) (K - c)).j = way t.mask Z K := by rw [jw, eK]
      rw [hst, ← e2]
      exact hpr
    rw [pr]
    dsimp only
    apply wpAny_pure (no _)
    intro hm
    obtain ⟨p0, h0, hk0⟩ := List.mem_map.mp hm
    obtain ⟨i0, hi0⟩ := List.mem_iff_getElem?.mp h0
    obtain ⟨d, d1, d2, d3⟩ := hre i0 p0 hi0 hk0
    exact hno (d - c) i0 (by omega) (by rw [jw, show c + (d - c) = d by omega]; exact d3) ((at_ i0 p0 hi0).trans (by rw [show p0.2 = k from hk0, hH]))
/-- the search that adding asks for -/
theorem searchK0 (R : SetK P w s.heap a L es ep t) {x : Addr} {k : List Key} (hx : TupK P w s.heap k x) (hu : A.units < cLine) {Q : SetFound → Shared → Prop}
    (yes : k ∈ keysK L → Q (.there none) s)
    (no : ∀ K, k ∉ keysK L → way t.mask (hsK P w k) K ∉ t.place.toList → (∀ c, c < K → way t.mask (hsK P w k) c ∈ t.place.toList) → Q (.free (way t.mask (hsK P w k) K) false) s) :
    wpAny (model P w) A (setSearch a (.ref x) (hsK P w k) true) Q E s := by
  have rm := R.rom
  obtain ⟨K, hf, hK, hb⟩ := R.tbl.first (by rw [List.length_map]; omega) (hsK P w k)
  have big : K < 100000 := by
    refine Nat.lt_trans hf ?_
    unfold SetTable.turns
    rcases R.tbl.mok with e | e | e <;> rw [e] <;> decide
  unfold setSearch
  apply searchK R hx hu hf hK hb yes (fun hn => no K hn hK hb) 100000 0 none rfl (Nat.zero_le _) (by omega)
  intro i p hp hk
  have hl : i < t.place.toList.length := by
    have h1 := (List.getElem?_eq_some_iff.mp hp).1
    have h2 := R.tbl.sz
    rw [List.length_map] at h2
    rw [Array.length_toList]
    omega
  have hj := List.getElem?_eq_getElem hl
  have hi : (L.map fun p => hsK P w p.2)[i]? = some (hsK P w k) := by simp [hp, hk]
  obtain ⟨c, hc, e⟩ := R.tbl.before hK hi hj
  exact ⟨c, Nat.zero_le _, hc, by rw [hj, e]⟩

/-- a tuple stands while the set changes -/
theorem TupK.but {h h' : Heap} {k : List Key} {a b : Addr} {o : Obj} {es : Array (Int × Value)} {ep : Nat} {t : SetTable} (hb : TupK P w h k b) (ho : h.get? a = some o) (hd : o.data = .set es ep t) (hs : Heap.SameBut a h h') : TupK P w h' k b := by
  obtain ⟨u, its, n, h1, h2, h3, h4⟩ := hb
  have ne : b ≠ a := fun e => by
    subst e
    rw [h1] at ho
    cases ho
    rw [h3] at hd
    cases hd
  exact ⟨u, its, n, (hs.2 b ne).trans h1, h2, h3, h4⟩
theorem TupK.kept {h h' : Heap} {k : List Key} {b : Addr} (x : TupK P w h k b) (hk : ∀ c o, h.get? c = some o → h'.get? c = some o) : TupK P w h' k b := by
  obtain ⟨u, its, n, h1, r⟩ := x
  exact ⟨u, its, n, hk _ _ h1, r⟩
theorem ins_perm {α : Type} (L : List α) (p : Nat) (x : α) : (L.take p ++ x :: L.drop p).Perm (x :: L) :=
  List.perm_middle.trans (by rw [List.take_append_drop])
theorem range_get {α : Type} (L : List α) : (List.range L.length).filterMap (fun i => L[i]?) = L := by
  have key : ∀ n, n ≤ L.length → (List.range n).filterMap (fun i => L[i]?) = L.take n := by
    intro n
    induction n with
    | zero => exact fun _ => rfl
    | succ n ih =>
      intro hn
      have e := List.getElem?_eq_getElem (show n < L.length from hn)
      rw [List.range_succ, List.filterMap_append, ih (by omega), List.take_succ, e]
      simp [e]
  rw [key _ (Nat.le_refl _), List.take_length]
/-- the rows in another order -/
theorem rows_order (L : List Row) (es : Array (Int × Value)) (ord : Array Nat) (hr : es.toList = rowsK P w L) (hp : ord.toList.Perm (List.range L.length)) :
    ∃ L2, (ord.filterMap (es[·]?)).toList = rowsK P w L2 ∧ L2.Perm L ∧ (L2.map fun p => hsK P w p.2) = ord.toList.map fun i => (es.map (·.1)).getD i 0 := by
  have sz := rowsK_len hr
  have key : ∀ l : List Nat, (∀ i, i ∈ l → i < L.length) → l.filterMap (fun i => es[i]?) = rowsK P w (l.filterMap fun i => L[i]?) ∧
      ((l.filterMap fun i => L[i]?).map fun p => hsK P w p.2) = l.map fun i => (es.map (·.1)).getD i 0 := by
    intro l
    induction l with
    | nil => exact fun _ => ⟨rfl, rfl⟩
    | cons i l ih =>
      intro hl
      have hi := List.getElem?_eq_getElem (hl i List.mem_cons_self)
      obtain ⟨e1, e2⟩ := ih fun j hj => hl j (List.mem_cons_of_mem _ hj)
      have ee := rowsK_get hr hi
      constructor
      · rw [List.filterMap_cons_some ee, List.filterMap_cons_some hi, e1]
        rfl
      · rw [List.filterMap_cons_some hi, List.map_cons, List.map_cons, e2]
        have e3 : (es.map (·.1))[i]? = some (hsK P w (L[i]'(hl i List.mem_cons_self)).2) := by rw [Array.getElem?_map, ee]; rfl
        rw [show (es.map (·.1)).getD i 0 = hsK P w (L[i]'(hl i List.mem_cons_self)).2 by simp [Array.getD_eq_getD_getElem?, e3]]
  obtain ⟨e1, e2⟩ := key ord.toList fun i hi => List.mem_range.mp (hp.mem_iff.mp hi)
  refine ⟨ord.toList.filterMap fun i => L[i]?, ?_, ?_, e2⟩
  · rw [Array.toList_filterMap]
    exact e1
  · have z := hp.filterMap (fun i => L[i]?)
    rw [range_get] at z
    exact z

/-- the table laid anew -/
theorem relayK {o : Obj} (ho : s.heap.get? a = some o) (hex : o.ExactSet) (hd : o.data = .set es ep t) (hr : es.toList = rowsK P w L) (hsz : t.place.size = es.size) (hdm : t.dummies = #[]) (hfl : es.size ≤ t.mask)
    (uni : (keysK L).Nodup) (mem : ∀ p, p ∈ L → TupK P w s.heap p.2 p.1) (low : L.length < 64) {wn M : Nat}
    (hw : SetTable.sizeAbove wn - 1 = M) (hM : MaskOk M) (hw2 : SetTable.sizeAbove wn ≤ 128) (hn : L.length * 5 < M * 3) {Q : Unit → Shared → Prop}
    (q : ∀ h' L' es' ep' t', Heap.SameBut a s.heap h' → SetK P w h' a L' es' ep' t' → L'.Perm L → Q () { s with heap := h' }) : wpAny (model P w) A (setRelay a wn) Q E s := by
  have hsl := rowsK_len hr
  obtain ⟨t', ord, e, hp, T, em, _, _, _⟩ := relaid_ok t (hs := es.map (·.1)) (wanted := wn) hw hM (by rw [Array.size_map, hsl]; omega)
  rw [Array.size_map, hsl] at hp
  obtain ⟨L2, r1, r2, r3⟩ := rows_order L es ord hr hp
  have hs2 : (ord.filterMap (es[·]?)).size = L.length := by rw [rowsK_len r1, r2.length_eq]
  rw [← r3] at T
  rw [setRelay_eq]
  apply wpAny_bind (wpAny_setState_of ho hd (fits_of (m := 0) hdm hsz hfl) _)
  dsimp only
  apply wp_if_neg (by rw [sizeLine_eq]; omega)
  try apply wpAny_bind (wpAny_pure _)
  rw [e]
  dsimp only
  apply wpAny_bind
  apply wp_if_neg (by rw [hs2, hsl]; simp)
  try apply wpAny_bind (wpAny_pure _)
  apply wpAny_pure
  dsimp only
  apply wpAny_storeSet_of ho hd _ (by rw [hs2, sizeLine_eq]; omega)
  have sb : Heap.SameBut a s.heap (s.heap.update a (Obj.putSet (ord.filterMap (es[·]?)) t')) := Heap.SameBut.update ..
  apply q _ L2 (ord.filterMap (es[·]?)) (ep + 1) t' sb _ r2
  exact ⟨⟨_, store_at ho hd, ⟨hex.1, hex.2.1, hex.2.2⟩, rfl⟩, r1, T, (r2.map Prod.snd).nodup_iff.mpr uni, fun p hpm => TupK.but (mem p (r2.mem_iff.mp hpm)) ho hd sb, by rw [r2.length_eq, em]; exact hn, by rw [r2.length_eq]; exact low⟩

/-- a member more -/
theorem addK (R : SetK P w s.heap a L es ep t) {x : Addr} {k : List Key} (hx : TupK P w s.heap k x) (hu : A.units < cLine) (few : k ∉ keysK L → L.length + 1 < 64) {Q : Bool → Shared → Prop}
    (q : ∀ b h' L' es' ep' t', Heap.SameBut a s.heap h' → SetK P w h' a L' es' ep' t' → (k ∈ keysK L → L' = L) → (k ∉ keysK L → L'.Perm ((x, k) :: L)) → Q b { s with heap := h' }) :
    wpAny (model P w) A (setAddHashed a (.ref x) (hsK P w k)) Q E s := by
  obtain ⟨o, ho, hex, hd⟩ := R.obj
  have hsl := rowsK_len R.rws
  have rm := R.rom
  unfold setAddHashed
  apply wpAny_holding
  rw [show (100000 : Nat) = 99999 + 1 from rfl, setAddHashedIn_succ]
  apply wpAny_bind (wpAny_setState_of ho hd R.fit _)
  dsimp only
  apply wp_if_neg (by simp [byScan, Value.scannable])
  try apply wpAny_bind (wpAny_pure _)
  apply wpAny_bind (searchK0 R hx hu _ _)
  · intro hm
    dsimp only
    exact wpAny_pure (q false s.heap L es ep t (Heap.SameBut.refl a s.heap) R (fun _ => rfl) fun z => absurd hm z)
  intro K hm hK hb
  have few := few hm
  dsimp only
  apply wpAny_bind (wpAny_setState_of ho hd R.fit _)
  dsimp only
  obtain ⟨q1, q2, q3, q4, _, _, _, _, q9⟩ := R.tbl.put hK hb
  generalize hpt : t.put (way t.mask (hsK P w k) K) = pt at q1 q3 q4 q9 ⊢
  obtain ⟨t1, p⟩ := pt
  dsimp only at q1 q3 q4 q9 ⊢
  subst q1
  generalize hpp : SetTable.below t.place (way t.mask (hsK P w k) K) = p at *
  have ins : (SetTable.insertAt es p (hsK P w k, Value.ref x)).toList = rowsK P w (L.take p ++ (x, k) :: L.drop p) := by
    rw [SetTable.toList_insertAt, R.rws]
    simp [rowsK]
  have pm := ins_perm L p (x, k)
  have len1 : (L.take p ++ (x, k) :: L.drop p).length = L.length + 1 := pm.length_eq
  have T1 : TabOk t1 ((L.take p ++ (x, k) :: L.drop p).map fun p => hsK P w p.2) := by
    have e : (L.take p ++ (x, k) :: L.drop p).map (fun p => hsK P w p.2) = (L.map fun p => hsK P w p.2).take p ++ hsK P w k :: (L.map fun p => hsK P w p.2).drop p := by simp
    rw [e]
    exact q3
  have uni1 : (keysK (L.take p ++ (x, k) :: L.drop p)).Nodup := (pm.map Prod.snd).nodup_iff.mpr (List.nodup_cons.mpr ⟨hm, R.uni⟩)
  have sz1 := rowsK_len ins
  rw [len1] at sz1
  generalize SetTable.insertAt es p (hsK P w k, Value.ref x) = es1 at *
  generalize L.take p ++ (x, k) :: L.drop p = L1 at *
  have main : ∀ t2 : SetTable, t2.place = t1.place → t2.dummies = t1.dummies → t2.mask = t1.mask → t2.fill = t1.fill →
      wpAny (model P w) A (do
        storeSet a es1 t2
        if !false && t2.tooFull then setRelay a (SetTable.grown (es.size + 1))
        return true) Q E s := by
    intro t2 f1 f2 f3 f4
    have T2 : TabOk t2 (L1.map fun p => hsK P w p.2) := by
      obtain ⟨a1, a2, a3, a4, a5, a6⟩ := T1
      exact ⟨by rw [f1]; exact a1, by rw [f2]; exact a2, by rw [f1]; exact a3, by rw [f3]; exact a4, by rw [f1, f3]; exact a5, by rw [f1, f3]; exact a6⟩
    apply wpAny_bind (wpAny_storeSet_of ho hd _ (by rw [sz1, sizeLine_eq]; omega))
    have sb : Heap.SameBut a s.heap (s.heap.update a (Obj.putSet es1 t2)) := Heap.SameBut.update ..
    have ho1 := store_at (es' := es1) (t' := t2) ho hd
    generalize s.heap.update a (Obj.putSet es1 t2) = h1 at sb ho1 ⊢
    have mem1 : ∀ p, p ∈ L1 → TupK P w h1 p.2 p.1 := fun p hp => by
      rcases List.mem_cons.mp (pm.mem_iff.mp hp) with e | hp
      · rw [e]; exact TupK.but hx ho hd sb
      · exact TupK.but (R.mem p hp) ho hd sb
    have fl : t2.tooFull = decide (t2.fill * 5 ≥ t2.mask * 3) := rfl
    rw [f4, q9, List.length_map] at fl
    by_cases hf : t2.tooFull = true
    · rw [hf]
      rw [hf] at fl
      have full : (L.length + 1) * 5 ≥ t2.mask * 3 := of_decide_eq_true fl.symm
      have two : (t2.mask = 7 ∧ L.length = 4) ∨ (t2.mask = 31 ∧ L.length = 18) := by
        rw [f3, q4] at full ⊢
        rcases R.tbl.mok with e | e | e <;> rw [e] at full rm ⊢ <;> omega
      have go : ∀ M, SetTable.sizeAbove (SetTable.grown (L.length + 1)) - 1 = M → MaskOk M → SetTable.sizeAbove (SetTable.grown (L.length + 1)) ≤ 128 → (L.length + 1) * 5 < M * 3 →
          wpAny (model P w) A (setRelay a (SetTable.grown (L.length + 1))) (fun _ s' => wpAny (model P w) A (pure true) Q E s') E { s with heap := h1 } := by
        intro M a1 a2 a3 a4
        apply relayK (s := { s with heap := h1 }) ho1 ⟨hex.1, hex.2.1, hex.2.2⟩ rfl ins (by rw [T2.sz, List.length_map, len1, sz1]) T2.dm (by rw [sz1]; rcases two with ⟨e, e2⟩ | ⟨e, e2⟩ <;> omega) uni1 mem1 (by rw [len1]; exact few) a1 a2 a3 (by rw [len1]; exact a4)
        intro h2 L2 es2 ep2 t3 sb2 R2 pm2
        exact wpAny_pure (q true h2 L2 es2 ep2 t3 (sb.trans sb2) R2 (fun z => absurd z hm) fun _ => pm2.trans pm)
      simp only [Bool.not_false, Bool.and_self, if_true]
      apply wpAny_bind
      rw [hsl]
      rcases two with ⟨_, e2⟩ | ⟨_, e2⟩
      · exact go 31 (by rw [e2, size_20]) (.inr (.inl rfl)) (by rw [e2, size_20]; decide) (by omega)
      · exact go 127 (by rw [e2, size_76]) (.inr (.inr rfl)) (by rw [e2, size_76]; decide) (by omega)
    · have hf' : t2.tooFull = false := by simpa using hf
      rw [hf']
      rw [hf'] at fl
      have nf : ¬ (L.length + 1) * 5 ≥ t2.mask * 3 := of_decide_eq_false fl.symm
      simp only [Bool.and_false, Bool.false_eq_true, if_false]
      try apply wpAny_bind (wpAny_pure _)
      exact wpAny_pure (q true h1 L1 es1 (ep + 1) t2 sb ⟨⟨_, ho1, ⟨hex.1, hex.2.1, hex.2.2⟩, rfl⟩, ins, T2, uni1, mem1, by rw [len1]; omega, by rw [len1]; exact few⟩ (fun z => absurd z hm) fun _ => pm)
  by_cases hp : t1.plain = true
  · first
      | apply wp_if_pos hp (wpAny_bind (byValue_tupK hx _))
      | (apply wpAny_bind; apply wp_if_pos hp (byValue_tupK hx _))
    intro c
    cases c
    · exact main { t1 with plain := false } rfl rfl rfl rfl
    · exact main t1 rfl rfl rfl rfl
  · first
      | apply wp_if_neg hp (wpAny_bind (wpAny_pure _))
      | (apply wpAny_bind; apply wp_if_neg hp (wpAny_pure _))
    exact main t1 rfl rfl rfl rfl

/-- what the set has got from the first i items -/
structure Had (ks : List Row) (i : Nat) (L : List Row) : Prop where
  sub : ∀ p, p ∈ L → p ∈ ks.take i
  all : ∀ p, p ∈ ks.take i → p.2 ∈ keysK L
  len : L.length ≤ i
theorem Had.nil (ks : List Row) : Had ks 0 [] := ⟨fun _ h => (nomatch h), fun _ h => (by simp at h), Nat.le_refl _⟩
theorem take_one {α : Type} {l : List α} {i : Nat} {x : α} (h : l[i]? = some x) : l.take (i + 1) = l.take i ++ [x] := by
  simp [List.take_succ, h]
theorem Had.next {ks L L' : List Row} {i : Nat} {x : Row} (g : Had ks i L) (h : ks[i]? = some x) (c1 : x.2 ∈ keysK L → L' = L) (c2 : x.2 ∉ keysK L → L'.Perm (x :: L)) : Had ks (i + 1) L' := by
  by_cases c : x.2 ∈ keysK L
  · rw [c1 c]
    refine ⟨fun p hp => ?_, fun p hp => ?_, Nat.le_succ_of_le g.len⟩
    · rw [take_one h]
      exact List.mem_append_left _ (g.sub p hp)
    · rw [take_one h, List.mem_append, List.mem_singleton] at hp
      rcases hp with z | z
      · exact g.all p z
      · rw [z]; exact c
  · have pm := c2 c
    refine ⟨fun p hp => ?_, fun p hp => ?_, by rw [pm.length_eq]; exact Nat.succ_le_succ g.len⟩
    · rw [take_one h]
      rcases List.mem_cons.mp (pm.mem_iff.mp hp) with e | z
      · exact List.mem_append_right _ (by rw [e]; exact List.mem_singleton.mpr rfl)
      · exact List.mem_append_left _ (g.sub p z)
    · rw [keysK, (pm.map Prod.snd).mem_iff, List.map_cons]
      rw [take_one h, List.mem_append, List.mem_singleton] at hp
      rcases hp with z | z
      · exact List.mem_cons_of_mem _ (g.all p z)
      · rw [z]; exact List.mem_cons_self
theorem SetK.moved {h h' : Heap} (R : SetK P w h a L es ep t) (ha : ∀ o, h.get? a = some o → h'.get? a = some o) (ht : ∀ p, p ∈ L → TupK P w h' p.2 p.1) : SetK P w h' a L es ep t := by
  obtain ⟨o, ho, r⟩ := R.obj
  exact ⟨⟨o, ha o ho, r⟩, R.rws, R.tbl, R.uni, ht, R.rom, R.low⟩
/-- a new set's object -/
def set0 (b : Bool) : Obj := { cls := .type "set", dict := none, data := .set #[] 0 (.fresh 0 0 b) }
theorem setK_new {h : Heap} {b : Bool} (ho : h.get? a = some (set0 b)) : SetK P w h a [] #[] 0 (.fresh 0 0 b) :=
  ⟨⟨_, ho, ⟨rfl, rfl, rfl⟩, rfl⟩, rfl, ⟨List.Pairwise.nil, rfl, rfl, .inl rfl, fun _ hx => (nomatch hx), fun i z j hi => (by simp at hi)⟩, List.nodup_nil, fun _ hp => (nomatch hp), (by decide : 0 * 5 < 7 * 3), (by decide : 0 < 64)⟩

/-- few different ones -/
def Few (ks : List Row) : Prop := ∀ D : List (List Key), D.Nodup → (∀ k, k ∈ D → k ∈ keysK ks) → D.length < 64
theorem nodup_le {α : Type} [DecidableEq α] : ∀ (l D : List α), D.Nodup → (∀ x, x ∈ D → x ∈ l) → D.length ≤ l.length
  | [], D, _, h => by
    have : D = [] := List.eq_nil_iff_forall_not_mem.mpr fun z hz => by simpa using h z hz
    rw [this]
    exact Nat.le_refl _
  | a :: r, D, nd, h => by
    by_cases aD : a ∈ D
    · have e := nodup_le r (D.erase a) (nd.erase a) fun z hz => by
        rw [nd.mem_erase_iff] at hz
        exact (List.mem_cons.mp (h z hz.2)).elim (fun e => absurd e hz.1) id
      rw [List.length_erase_of_mem aD] at e
      rw [List.length_cons]
      omega
    · have e := nodup_le r D nd fun z hz => (List.mem_cons.mp (h z hz)).elim (fun e => absurd (by rw [← e]; exact hz) aD) id
      rw [List.length_cons]
      omega
theorem few_of {ks : List Row} (h : ks.length < 64) : Few ks := fun D nd hD => by
  have e := nodup_le (keysK ks) D nd hD
  have : (keysK ks).length = ks.length := by simp [keysK]
  omega
/-- the loop of set.update over a list of tuples -/
theorem loopK {I : Addr} {fp wr : List Addr} {G : Array GenState → Array GenState → Prop} {n : Nat} {Pv : Nat → Value → Prop} {St : Nat → Shared → Prop} {R : Result → Shared → Prop}
    (W : WalksS P w A.in1 I fp wr G n Pv St) (S : Addr) (nS : S ∉ fp) (ks : List Row) (hn : n = ks.length) (few : Few ks) (val : ∀ i v, Pv i v → ∃ p, ks[i]? = some p ∧ v = .ref p.1)
    (g0 : Heap) (hk : ∀ p, p ∈ ks → TupK P w g0 p.2 p.1) (n0 : g0.get? S = none) (w0 : ∀ b, b ∈ wr → g0.get? b = none) (hu : A.in1.units < cLine) :
    ∀ (m i : Nat) (s : Shared), n - i = m → i ≤ n → St i s → (∀ b o, g0.get? b = some o → s.heap.get? b = some o) → (∃ L es ep t, SetK P w s.heap S L es ep t ∧ Had ks i L) →
      (∀ s' L es ep t, Moved (S :: wr) G s s' → SetK P w s'.heap S L es ep t → Had ks n L → (∀ b o, g0.get? b = some o → s'.heap.get? b = some o) → R (.ok (.ret .none)) s') →
      codeAny (model P w) A (.builtin "set.update.loop" ⟨[.ref S, .ref I], []⟩) R s := by
  have sw : S ∉ wr := fun h => nS (W.sub _ h)
  have up : ∀ b, b ∈ wr → b ∈ S :: wr := fun b hb => List.mem_cons_of_mem _ hb
  have kp : ∀ {s s' : Shared}, Moved wr G s s' → (∀ b o, g0.get? b = some o → s.heap.get? b = some o) → ∀ b o, g0.get? b = some o → s'.heap.get? b = some o := fun hm h b o e =>
    hm.heap b o (fun hb => by rw [w0 b hb] at e; cases e) (h b o e)
  intro m
  induction m with
  | zero =>
    intro i s hm hi hst hkp ⟨L, es, ep, t, hS, g⟩ hR
    obtain rfl : i = n := by omega
    apply codeAny_builtin F.entry_set_update_loop
    rw [Around.under_plainId F.plain_set_update_loop _]
    show wpAny _ A.in1 (pyNext (.ref I) >>= _) _ _ s
    apply wpAny_bind (W.done s _ _ hst _)
    intro s' mv
    show wpAny _ A.in1 (ret Value.none) _ _ s'
    have k2 := kp mv hkp
    exact wpAny_pure (hR s' L es ep t (mv.mono up) (hS.moved (fun o e => mv.heap S o sw e) fun p hp => TupK.kept (hk p (List.mem_of_mem_take (g.sub p hp))) k2) g k2)
  | succ m ih =>
    intro i s hm hi hst hkp ⟨L, es, ep, t, hS, g⟩ hR
    have lt : i < n := by omega
    apply codeAny_builtin F.entry_set_update_loop
    rw [Around.under_plainId F.plain_set_update_loop _]
    show wpAny _ A.in1 (pyNext (.ref I) >>= _) _ _ s
    apply wpAny_bind (W.item i s _ _ lt hst _)
    intro v s' hP hst' mv
    obtain ⟨p, hp, rfl⟩ := val i v hP
    have k2 := kp mv hkp
    have hS' : SetK P w s'.heap S L es ep t := hS.moved (fun o e => mv.heap S o sw e) fun q hq => TupK.kept (hk q (List.mem_of_mem_take (g.sub q hq))) k2
    have hx : TupK P w s'.heap p.2 p.1 := TupK.kept (hk p (List.mem_of_getElem? hp)) k2
    show wpAny _ A.in1 (holding [Value.ref p.1] (setAdd S (.ref p.1)) >>= _) _ _ s'
    apply wpAny_bind (wpAny_holding _)
    unfold setAdd
    apply wpAny_holding
    apply wpAny_bind (wpAny_pyHash_tuple hu hx _)
    apply addK (s := { s' with toks := s'.toks + (p.2.length + 1) }) hS' hx hu (fun nk => by
      have z := few (keysK L ++ [p.2]) (by
        rw [List.nodup_append]
        refine ⟨hS'.uni, by simp, fun a ha b hb => ?_⟩
        rw [List.mem_singleton.mp hb]
        rintro rfl
        exact nk ha) fun k hk2 => by
        rcases List.mem_append.mp hk2 with hk2 | hk2
        · obtain ⟨q, hq, rfl⟩ := List.mem_map.mp hk2
          exact List.mem_map.mpr ⟨q, List.mem_of_mem_take (g.sub q hq), rfl⟩
        · rw [List.mem_singleton.mp hk2]
          exact List.mem_map.mpr ⟨p, List.mem_of_getElem? hp, rfl⟩
      have zl : (keysK L).length = L.length := by simp [keysK]
      rw [List.length_append, zl] at z
      exact z)
    intro b h' L' es' ep' t' sb hS2 c1 c2
    have k3 : ∀ b o, g0.get? b = some o → h'.get? b = some o := fun b o e => (sb.2 b (fun z => by rw [z, n0] at e; cases e)).trans (k2 b o e)
    have fr := W.frame (i + 1) s' h' (s'.toks + (p.2.length + 1)) hst' (Nat.le_add_right _ _) fun b hb o e => by
      rw [sb.2 b (fun h : b = S => nS (by rw [← h]; exact hb))]; exact e
    apply wpAny_pure
    refine ⟨plainId_quiet F.plain_set_update_loop _, ih (i + 1) _ (by omega) lt fr k3 ⟨L', es', ep', t', hS2, g.next hp c1 c2⟩ fun s'' L2 es2 ep2 t2 mv2 hS3 g3 k4 => ?_⟩
    refine hR s'' L2 es2 ep2 t2 (Moved.trans W.gtrans ((mv.mono up).then_heap (Nat.le_add_right _ _) fun b o hb e => ?_) mv2) hS3 g3 k4
    rw [sb.2 b fun h => hb (by rw [h]; exact List.mem_cons_self)]
    exact e

/-- what the loop of set(xs) does -/
structure SetLoop (P : Program) (w : World) (A : Around) (s : Shared) (l : Addr) (Post : Heap → Prop) : Prop where
  run : ∀ (led : Bool) (R : Result → Shared → Prop), (w.params.followText "set-order" = true ∨ led = true) → (∀ h' tk, Post h' → (∀ b o, s.heap.get? b = some o → h'.get? b = some o) → R (.ok (.ret .none)) { s with heap := h', toks := tk }) →
    codeAny (model P w) A.in1.in1 (.builtin "set.update.loop" ⟨[.ref s.heap.objs.size, .ref (s.heap.push (set0 led)).objs.size], []⟩) R
      { s with heap := (s.heap.push (set0 led)).push { cls := .type "list_iterator", data := .fields #[.ref l, .int 0 0] } }
structure SetGoal (s : Shared) (Post : Heap → Prop) (Q : Value → Shared → Prop) : Prop where
  out : ∀ (h' : Heap) (tk : Nat), Post h' → (∀ b o, s.heap.get? b = some o → h'.get? b = some o) → Q (.ref s.heap.objs.size) { s with heap := h', toks := tk }
/-- set(xs), by what its loop does -/
theorem call_set_gen {l : Addr} {its : Array Value} (Post : Heap → Prop) {Q : Value → Shared → Prop} (hl : s.heap.IsList l its) (loop : SetLoop P w A s l Post) (q : SetGoal s Post Q) :
    wpAny (model P w) A (call (.type "set") [.ref l]) Q E s := by
  obtain ⟨c, tl, hmro⟩ := F.called_set.mro
  have y1 := F.called_set.made
  have y2 := F.called_set.sub
  apply wpAny_call (codeAny_of_tree _)
  show wpAny _ _ (callAny (.type "set") _) _ _ _
  apply wpAny_pure
  refine ⟨Code.quiet_builtin _ (by decide +kernel), codeAny_builtin F.entry_type_call ?_⟩
  rw [Around.under_plain (weight_type_call_type "set" [.ref l] []) rfl]
  have y3 := F.called_set.notType
  have y4 := F.called_set.canCreate
  have y5 := F.typeCall_set_1 (.ref l)
  repeat (any_goals (first | assumption | wp_step))
  generalize hb : (!w.params.followText "set-order") = led at *
  have hled : w.params.followText "set-order" = true ∨ led = true := by
    rw [← hb]
    cases w.params.followText "set-order" <;> simp
  have z0 : ∀ b, s.heap.objs.size ≤ b → s.heap.get? b = none := fun b hb => by
    cases e : s.heap.get? b with
    | none => rfl
    | some o => exact absurd (Heap.lt_size e) (Nat.not_lt.mpr hb)
  have n1 : (s.heap.push (set0 led)).objs.size = s.heap.objs.size + 1 := Heap.size_push ..
  have g1 : (s.heap.push (set0 led)).get? s.heap.objs.size = some (set0 led) := Heap.get?_push_size _ rfl
  apply codeAny_mono (code_set_led1 (.ref l) (E := E) (Q₁ := fun obj s₁ => obj = .ref s.heap.objs.size ∧ s₁ = { s with heap := s.heap.push (set0 led) }) ⟨rfl, by rw [hb]; rfl⟩)
  intro r s₁ hr
  rcases r with e | fl
  · exact hr
  cases fl with
  | next => exact hr.elim
  | brk => exact hr.elim
  | cont => exact hr.elim
  | ret obj =>
  obtain ⟨rfl, rfl⟩ := hr
  have ty : Shared.TypeIs { s with heap := s.heap.push (set0 led) } (.ref s.heap.objs.size) "set" := ⟨_, g1, rfl⟩
  have x1 := F.called_set.init.lookup
  have x2 := F.called_set.init.bind (.ref s.heap.objs.size)
  repeat (any_goals (first | assumption | wp_step))
  apply codeAny_mono (codeAny_call_builtin (R := wants (fun r s₂ => r = .none ∧ ∃ h' tk, s₂ = { s with heap := h', toks := tk } ∧ Post h' ∧
    (∀ b o, s.heap.get? b = some o → h'.get? b = some o)) E) F.called_set.init.plain F.entry_set_init (check_set_init_1 ty _))
  · intro r₂ s₂ hr₂
    rcases r₂ with e | fl₂
    · exact hr₂
    cases fl₂ with
    | next => exact hr₂.elim
    | brk => exact hr₂.elim
    | cont => exact hr₂.elim
    | ret r =>
      obtain ⟨rfl, h', tk, rfl, g, k⟩ := hr₂
      repeat (any_goals (first | assumption | wp_step))
      exact q.out _ _ g k
  obtain ⟨⟨oc, od, odt, osl⟩, hol, hcl, nl, hdl⟩ := hl
  dsimp only at hcl hdl
  subst hcl hdl
  have ls : l < s.heap.objs.size := Heap.lt_size hol
  have g2 := Heap.get?_push_of_some (set0 led) hol
  have w1 := F.sub_list_set
  have w2 := F.sub_list_frozenset
  have w3 : (Value.type "list" == Value.type "dict") = false := by decide
  have hl1 : (s.heap.push (set0 led)).IsList l its := ⟨_, g2, rfl, nl, rfl⟩
  unfold Builtin.«set.__init__» noKeywords Builtin.Frozenset.updateFrom
  generalize hPI : pyIter = PI
  clear q y1 y2 y3 y4 y5 x1 x2 ty g1 z0 n1 hb
  wp_walk
  subst hPI
  apply wpAny_pyIter_list hl1
  apply wpAny_bind (wpAny_runValue _)
  refine loop.run led _ hled fun h' tk g k => ?_
  show wpAny _ _ _ _ _ _
  apply wpAny_pure
  show wpAny _ _ (ret Value.none) _ _ _
  exact wpAny_pure ⟨rfl, h', tk, rfl, g, k⟩
theorem no_above {h : Heap} {b : Addr} (hb : h.objs.size ≤ b) : h.get? b = none := by
  cases e : h.get? b with
  | none => rfl
  | some o => exact absurd (Heap.lt_size e) (Nat.not_lt.mpr hb)
/-- set(xs), xs a list of such tuples -/
theorem call_setK {l : Addr} {its : Array Value} (ks : List Row) {Q : Value → Shared → Prop} (hh : A.handled = none) (hl : s.heap.IsList l its) (hit : its.toList = ks.map fun p => Value.ref p.1)
    (hk : ∀ p, p ∈ ks → TupK P w s.heap p.2 p.1) (few : Few ks) (hu : A.units + 3 < cLine)
    (q : ∀ (h' : Heap) (tk : Nat) L es ep t, SetK P w h' s.heap.objs.size L es ep t → Had ks ks.length L → (∀ b o, s.heap.get? b = some o → h'.get? b = some o) → Q (.ref s.heap.objs.size) { s with heap := h', toks := tk }) :
    wpAny (model P w) A (call (.type "set") [.ref l]) Q E s := by
  have isz : its.size = ks.length := by
    have z : its.toList.length = (ks.map fun p => Value.ref p.1).length := by rw [hit]
    simpa using z
  refine call_set_gen (fun h' => ∃ L es ep t, SetK P w h' s.heap.objs.size L es ep t ∧ Had ks ks.length L) hl ⟨?_⟩ ⟨fun h' tk ⟨L, es, ep, t, hS, g⟩ k => q h' tk L es ep t hS g k⟩
  intro led R hled hR
  have n1 : (s.heap.push (set0 led)).objs.size = s.heap.objs.size + 1 := Heap.size_push ..
  have g1 : (s.heap.push (set0 led)).get? s.heap.objs.size = some (set0 led) := Heap.get?_push_size _ rfl
  have hl1 := hl.push (set0 led)
  have ls : l < s.heap.objs.size := by
    obtain ⟨o, ho, _⟩ := hl
    exact Heap.lt_size ho
  have h3 : A.in1.in1.in1.handled = none := by simp [hh]
  have nI : l ≠ (s.heap.push (set0 led)).objs.size := by
    rw [n1]
    exact Nat.ne_of_lt (Nat.lt_succ_of_lt ls)
  have val : ∀ (i : Nat) (v : Value), its[i]? = some v → ∃ p, ks[i]? = some p ∧ v = .ref p.1 := fun i v hv => by
    rw [← Array.getElem?_toList, hit, List.getElem?_map] at hv
    obtain ⟨p, e1, e2⟩ := Option.map_eq_some_iff.mp hv
    exact ⟨p, e1, e2.symm⟩
  refine loopK ((Walks.list h3 _ l nI its).toS) s.heap.objs.size ?n1 ks isz few val s.heap hk (no_above (Nat.le_refl _)) ?n2 hu (its.size - 0) 0 _ (by omega) (Nat.zero_le _)
    ⟨⟨_, Heap.get?_push_size _ rfl, rfl, rfl⟩, (hl1.push _)⟩ (fun b o e => Heap.get?_push_of_some _ (Heap.get?_push_of_some _ e)) ⟨[], #[], 0, _, setK_new (Heap.get?_push_of_some _ g1), Had.nil ks⟩ ?n3
  case n1 =>
    rw [n1]
    simp only [List.mem_cons, List.not_mem_nil, or_false, not_or]
    exact ⟨Nat.ne_of_lt (Nat.lt_succ_self _), Nat.ne_of_gt ls⟩
  case n2 =>
    intro b hb
    rw [List.mem_singleton.mp hb, n1]
    exact no_above (Nat.le_succ _)
  case n3 =>
    intro s' L es ep t mv hS g k
    obtain ⟨h', g2, d', tk', os'⟩ := s'
    obtain rfl : g2 = s.gens := mv.gens
    obtain rfl : d' = s.drawn := mv.drawn
    obtain rfl : os' = s.os := mv.os
    rw [isz] at g
    exact hR h' tk' ⟨L, es, ep, t, hS, g⟩ k
end

/-! ### len(set(xs)) as a rule of the layer -/
/-- how many different ones -/
def many {α : Type} [DecidableEq α] (l : List α) : Nat := l.eraseDups.length
section
variable {X : Cx}
theorem TupK.of {pins : List (Addr × Obj)} {σ : L2.St} {H : Hp} {s : Shared} (I : Inv X pins σ H s) {a : Addr} {k : List Key} (h : SqT X.K H a (k.map kV)) : TupK X.prog X.w s.heap k a := by
  obtain ⟨its, rv, ⟨o, h1, h2, n, h3⟩, z⟩ := I.tuple h
  refine ⟨o, its.toArray, n, h1, h2, h3, ?_⟩
  rw [List.toList_toArray]
  clear h1 h2 h3 h z
  induction k generalizing its with
  | nil =>
    cases rv
    exact .nil
  | cons x k ih =>
    cases rv with
    | cons r t =>
      refine .cons ?_ (ih _ t)
      cases x with
      | inl i =>
        obtain ⟨t, rfl⟩ := r
        exact keyIs_int i t
      | inr z =>
        obtain ⟨t, rfl⟩ := r
        exact keyIs_str z t
/-- F: that there are few -/
def tLenSetG (F : List Row → Prop) (K : PySem.W.Frag) (ta : TE) : TE := fun σ H Q => ta σ H fun x H1 => ∃ (l : Addr) (ks : List Row), x = V.ref l ∧ SqL K H1 l (ks.map fun p => V.ref p.1) ∧ (∀ p, p ∈ ks → SqT K H1 p.1 (p.2.map kV)) ∧ F ks ∧
  ∀ n : Nat, (∀ D : List (List Key), D.Nodup → (∀ k, k ∈ D ↔ k ∈ keysK ks) → D.length = n) → Q (.int n) H1
def tLenSetK (K : PySem.W.Frag) (ta : TE) : TE := tLenSetG (fun ks => ks.length < 64) K ta
theorem nodup_same {α : Type} : ∀ {l m : List α}, l.Nodup → m.Nodup → (∀ x, x ∈ l ↔ x ∈ m) → l.length = m.length := fun h1 h2 h =>
  ((List.perm_ext_iff_of_nodup h1 h2).mpr h).length_eq
theorem pe_lenSetG {F : List Row → Prop} (hF : ∀ ks, F ks → Few ks) {a : Expr} {ta : TE} {p p2 q pos : Pos} (hc : X.calm = true) (hg : Gl X "len") (hm : X.mg "len" = none) (hg2 : Gl X "set") (hm2 : X.mg "set" = none) (ha : PE X a ta) (hu : X.A.units + 64 < cLine)
    (na : starEach [a] X.env = (false, eval a X.env) :: starEach [] X.env := by rfl) : PE X (.Call (.Name "len" p) [.Call (.Name "set" p2) [a] [] q] [] pos) (tLenSetG F X.K ta) := by
  refine ⟨fun pins s σ H Q I h => ?_⟩
  apply Call_ (ld_blt I hg hm PySem.boot_len _)
  apply PyProof.Rows.callWith_builtin1 (PyProof.Rows.args_cons _ rfl) rfl rfl
  apply Call_ (ld_blt I hg2 hm2 PyProof.Rows.boot_set _)
  apply PyProof.Rows.callWith_type1 (PyProof.Rows.args_cons (thn (ha.run pins s σ H _ I h) _) na) na rfl
  rintro v s1 ⟨x, H1, I1, r1, l, ks, rfl, hl, hk, few, q1⟩
  apply PyProof.Rows.args_nil
  cases r1
  obtain ⟨its, rv, pl, hz⟩ := I1.list hl
  have e1 : its = ks.map fun p => Value.ref p.1 := by
    clear hl pl hz hk few q1 I1
    induction ks generalizing its with
    | nil =>
      cases rv
      rfl
    | cons p ks ih =>
      cases rv with
      | cons r t =>
        cases r
        rw [List.map_cons, ih _ t]
  apply call_setK ks (I1.ok.hd hc) pl.isList (by rw [List.toList_toArray, e1]) (fun p hp => TupK.of I1 (hk p hp)) (hF ks few) (by omega)
  intro h' tk L es ep t R g k
  apply PyProof.Rows.args_nil
  have I2 : Inv X pins σ H1 { s1 with heap := h', toks := tk } := I1.kept fun b o e => k b o e
  have ln := rowsK_len R.rws
  have hL : L.length = (keysK L).length := by simp [keysK]
  obtain ⟨o, ho, hex, hd⟩ := R.obj
  have fin := q1 L.length fun D h1 h2 => by
    rw [hL]
    refine nodup_same h1 R.uni fun x => ?_
    rw [h2, keysK, List.mem_map]
    constructor
    · rintro ⟨p, hp, rfl⟩
      exact g.all p (by rw [List.take_length]; exact hp)
    · intro hx
      obtain ⟨p, hp, rfl⟩ := List.mem_map.mp hx
      exact ⟨p, by have := g.sub p hp; rwa [List.take_length] at this, rfl⟩
  have lo := R.low
  exact call_len_set ho hex hd (SetK.fit (s := { s1 with heap := h', toks := tk }) R) (by rw [ln]; omega) ⟨.int L.length, H1, I2.tok _, ⟨_, by rw [ln]⟩, fin⟩
theorem pe_lenSetK {a : Expr} {ta : TE} {p p2 q pos : Pos} (hc : X.calm = true) (hg : Gl X "len") (hm : X.mg "len" = none) (hg2 : Gl X "set") (hm2 : X.mg "set" = none) (ha : PE X a ta) (hu : X.A.units + 64 < cLine)
    (na : starEach [a] X.env = (false, eval a X.env) :: starEach [] X.env := by rfl) : PE X (.Call (.Name "len" p) [.Call (.Name "set" p2) [a] [] q] [] pos) (tLenSetK X.K ta) := pe_lenSetG (F := fun ks => ks.length < 64) (fun _ h => few_of h) hc hg hm hg2 hm2 ha hu na
end
end Kx
/-! len(set(xs)), xs a list of texts. -/
namespace Kx
open PySem PySem.Spec PyProof.Rows L2
/-- how many different ones stand in a list -/
def cnt {α : Type} [DecidableEq α] : List α → Nat
  | [] => 0
  | x :: l => if x ∈ l then cnt l else cnt l + 1
section
variable {P : Program} {w : World} {A : Around} {E : Value → Shared → Prop} {s : Shared}
def inS (xs : List Str) (k : Str) : Bool := decide (k ∈ xs)
theorem cnt_rev_append {α : Type} [DecidableEq α] : ∀ (l : List α) (x : α), cnt (l ++ [x]) = if x ∈ l then cnt l else cnt l + 1
  | [], x => by simp [cnt]
  | y :: l, x => by
    have ih := cnt_rev_append l x
    by_cases h3 : y = x
    · subst h3
      by_cases h1 : y ∈ l <;> simp_all [cnt]
    · have h4 : ¬ x = y := fun e => h3 e.symm
      by_cases h1 : x ∈ l <;> by_cases h2 : y ∈ l <;> simp_all [cnt]
theorem cnt_le {α : Type} [DecidableEq α] : ∀ l : List α, cnt l ≤ l.length
  | [] => Nat.le_refl _
  | x :: l => by
    have := cnt_le l
    unfold cnt
    split <;> simp <;> omega
theorem loopS {I : Addr} {fp wr : List Addr} {G : Array GenState → Array GenState → Prop} {n : Nat} {Pv : Nat → Value → Prop} {St : Nat → Shared → Prop} {R : Result → Shared → Prop}
    (W : WalksS P w A.in1 I fp wr G n Pv St) (S : Addr) (nS : S ∉ fp) (xs : List Str) (hn : n = xs.length) (few : xs.length < 4000) (val : ∀ i v, Pv i v → ∃ x t, xs[i]? = some x ∧ v = .str x t)
    (g0 : Heap) (n0 : g0.get? S = none) (w0 : ∀ b, b ∈ wr → g0.get? b = none) :
    ∀ (m i : Nat) (s : Shared), n - i = m → i ≤ n → St i s → (∀ b o, g0.get? b = some o → s.heap.get? b = some o) → s.heap.SetOf (strKind P w) S (inS (xs.take i)) (cnt (xs.take i)) →
      (∀ s', Moved (S :: wr) G s s' → s'.heap.SetOf (strKind P w) S (inS xs) (cnt xs) → (∀ b o, g0.get? b = some o → s'.heap.get? b = some o) → R (.ok (.ret .none)) s') →
      codeAny (model P w) A (.builtin "set.update.loop" ⟨[.ref S, .ref I], []⟩) R s := by
  have sw : S ∉ wr := fun h => nS (W.sub _ h)
  have up : ∀ b, b ∈ wr → b ∈ S :: wr := fun b hb => List.mem_cons_of_mem _ hb
  have kp : ∀ {s s' : Shared}, Moved wr G s s' → (∀ b o, g0.get? b = some o → s.heap.get? b = some o) → ∀ b o, g0.get? b = some o → s'.heap.get? b = some o := fun hm h b o e =>
    hm.heap b o (fun hb => by rw [w0 b hb] at e; cases e) (h b o e)
  have stay : ∀ {h h' : Heap} {f : Str → Bool} {c : Nat}, h.SetOf (strKind P w) S f c → (∀ o, h.get? S = some o → h'.get? S = some o) → h'.SetOf (strKind P w) S f c := fun ⟨o, es, ep, tb, ho, r⟩ k => ⟨o, es, ep, tb, k o ho, r⟩
  intro m
  induction m with
  | zero =>
    intro i s hm hi hst hkp hS hR
    obtain rfl : i = n := by omega
    apply codeAny_builtin F.entry_set_update_loop
    rw [Around.under_plainId F.plain_set_update_loop _]
    show wpAny _ A.in1 (pyNext (.ref I) >>= _) _ _ s
    apply wpAny_bind (W.done s _ _ hst _)
    intro s' mv
    show wpAny _ A.in1 (ret Value.none) _ _ s'
    rw [hn, List.take_length] at hS
    exact wpAny_pure (hR s' (mv.mono up) (stay hS fun o e => mv.heap S o sw e) (kp mv hkp))
  | succ m ih =>
    intro i s hm hi hst hkp hS hR
    have lt : i < n := by omega
    apply codeAny_builtin F.entry_set_update_loop
    rw [Around.under_plainId F.plain_set_update_loop _]
    show wpAny _ A.in1 (pyNext (.ref I) >>= _) _ _ s
    apply wpAny_bind (W.item i s _ _ lt hst _)
    intro v s' hP hst' mv
    obtain ⟨x, t, hx, rfl⟩ := val i v hP
    have k2 := kp mv hkp
    have hS' := stay hS fun o e => mv.heap S o sw e
    have room : cnt (xs.take i) ≤ i := Nat.le_trans (cnt_le _) (by rw [List.length_take]; omega)
    show wpAny _ A.in1 (holding [Value.str x t] (setAdd S (.str x t)) >>= _) _ _ s'
    apply wpAny_bind (wpAny_holding _)
    unfold setAdd
    apply wpAny_holding
    apply wpAny_bind ((PySem.strKind P w).pyHash (k := x) (strKind_is _ _ _ _) _)
    apply wpAny_setAddHashed_of (knd := PySem.strKind P w) (s := { s' with toks := s'.toks + 1 }) (strKind_is _ _ _ _) rfl hS' (by unfold scanBound; omega)
    intro h' sb hS2
    have k3 : ∀ b o, g0.get? b = some o → h'.get? b = some o := fun b o e => (sb.2 b (fun z => by rw [z, n0] at e; cases e)).trans (k2 b o e)
    have fr := W.frame (i + 1) s' h' (s'.toks + 1) hst' (Nat.le_add_right _ _) fun b hb o e => by
      rw [sb.2 b (fun h : b = S => nS (by rw [← h]; exact hb))]; exact e
    have hS3 : h'.SetOf (PySem.strKind P w) S (inS (xs.take (i + 1))) (cnt (xs.take (i + 1))) := by
      refine SetOf_congr hS2 (fun k => ?_) ?_
      · rw [take_one hx]
        by_cases e : k = x <;> by_cases e2 : k ∈ xs.take i <;> simp [inS, e, e2]
      · rw [take_one hx, cnt_rev_append]
        by_cases e : x ∈ xs.take i <;> simp [inS, e]
    apply wpAny_pure
    refine ⟨plainId_quiet F.plain_set_update_loop _, ih (i + 1) _ (by omega) lt fr k3 hS3 fun s'' mv2 hS4 k4 => ?_⟩
    refine hR s'' (Moved.trans W.gtrans ((mv.mono up).then_heap (Nat.le_add_right _ _) fun b o hb e => ?_) mv2) hS4 k4
    rw [sb.2 b fun h => hb (by rw [h]; exact List.mem_cons_self)]
    exact e
/-- set(xs), xs a list of texts -/
theorem call_setS {l : Addr} {its : Array Value} (xs : List Str) {Q : Value → Shared → Prop} (hh : A.handled = none) (hl : s.heap.IsList l its) (hi : PyProof.Rows.StrsAre its.toList xs) (few : xs.length < 4000)
    (q : ∀ (h' : Heap) (tk : Nat), h'.SetOf (strKind P w) s.heap.objs.size (inS xs) (cnt xs) → (∀ b o, s.heap.get? b = some o → h'.get? b = some o) → Q (.ref s.heap.objs.size) { s with heap := h', toks := tk }) :
    wpAny (model P w) A (call (.type "set") [.ref l]) Q E s := by
  have isz : its.size = xs.length := by rw [← StrsAre.len_eq hi, Array.length_toList]
  refine call_set_gen (fun h' => h'.SetOf (strKind P w) s.heap.objs.size (inS xs) (cnt xs)) hl ⟨?_⟩ ⟨fun h' tk hS k => q h' tk hS k⟩
  intro led R hled hR
  have n1 : (s.heap.push (set0 led)).objs.size = s.heap.objs.size + 1 := Heap.size_push ..
  have g1 : (s.heap.push (set0 led)).get? s.heap.objs.size = some (set0 led) := Heap.get?_push_size _ rfl
  have hl1 := hl.push (set0 led)
  have ls : l < s.heap.objs.size := by
    obtain ⟨o, ho, _⟩ := hl
    exact Heap.lt_size ho
  have h3 : A.in1.in1.in1.handled = none := by simp [hh]
  have nI : l ≠ (s.heap.push (set0 led)).objs.size := by
    rw [n1]
    exact Nat.ne_of_lt (Nat.lt_succ_of_lt ls)
  have val : ∀ (i : Nat) (v : Value), its[i]? = some v → ∃ x t, xs[i]? = some x ∧ v = .str x t := fun i v hv => by
    rw [← Array.getElem?_toList] at hv
    have lt : i < xs.length := by
      rw [← isz, ← Array.length_toList]
      exact (List.getElem?_eq_some_iff.mp hv).1
    obtain ⟨t, e⟩ := SS.strs_at hi i v hv
    exact ⟨xs[i], t, List.getElem?_eq_getElem lt, by rw [e]; simp [List.getD, List.getElem?_eq_getElem lt]⟩
  refine loopS ((Walks.list h3 _ l nI its).toS) s.heap.objs.size ?n1 xs isz few val s.heap (no_above (Nat.le_refl _)) ?n2 (its.size - 0) 0 _ (by omega) (Nat.zero_le _)
    ⟨⟨_, Heap.get?_push_size _ rfl, rfl, rfl⟩, (hl1.push _)⟩ (fun b o e => Heap.get?_push_of_some _ (Heap.get?_push_of_some _ e)) ?n4 ?n3
  case n1 =>
    rw [n1]
    simp only [List.mem_cons, List.not_mem_nil, or_false, not_or]
    exact ⟨Nat.ne_of_lt (Nat.lt_succ_self _), Nat.ne_of_gt ls⟩
  case n2 =>
    intro b hb
    rw [List.mem_singleton.mp hb, n1]
    exact no_above (Nat.le_succ _)
  case n3 =>
    intro s' mv hS k
    obtain ⟨h', g2, d', tk', os'⟩ := s'
    obtain rfl : g2 = s.gens := mv.gens
    obtain rfl : d' = s.drawn := mv.drawn
    obtain rfl : os' = s.os := mv.os
    exact hR h' tk' hS k
  case n4 =>
    refine ⟨set0 led, #[], 0, .fresh 0 0 led, Heap.get?_push_of_some _ g1, ⟨rfl, rfl, rfl⟩, rfl, ?_⟩
    exact ⟨fun e he => (nomatch he), fun k => ⟨fun h => (by simp [inS] at h), fun ⟨e, he, _⟩ => (nomatch he)⟩, (by decide : 0 < scanBound), rfl, by simp [cnt]⟩
end
section
variable {X : Cx}
theorem sAre_of : ∀ {xs : List Str} {us : List Value}, Vals (xs.map V.str) us → StrsAre us xs
  | [], _, .nil => .nil
  | x :: xs, _, .cons r t => by
    obtain ⟨tk, rfl⟩ := r
    exact .cons x tk (sAre_of t)
def tLenSetT (K : PySem.W.Frag) (ta : TE) : TE := fun σ H Q => ta σ H fun x H1 => ∃ (l : Addr) (xs : List Str), x = V.ref l ∧ SqL K H1 l (xs.map V.str) ∧ xs.length < 4000 ∧ Q (.int (cnt xs : Nat)) H1
theorem pe_lenSetT {a : Expr} {ta : TE} {p p2 q pos : Pos} (hc : X.calm = true) (hg : Gl X "len") (hm : X.mg "len" = none) (hg2 : Gl X "set") (hm2 : X.mg "set" = none) (ha : PE X a ta)
    (na : starEach [a] X.env = (false, eval a X.env) :: starEach [] X.env := by rfl) : PE X (.Call (.Name "len" p) [.Call (.Name "set" p2) [a] [] q] [] pos) (tLenSetT X.K ta) := by
  refine ⟨fun pins s σ H Q I h => ?_⟩
  apply Call_ (ld_blt I hg hm PySem.boot_len _)
  apply PyProof.Rows.callWith_builtin1 (PyProof.Rows.args_cons _ rfl) rfl rfl
  apply Call_ (ld_blt I hg2 hm2 PyProof.Rows.boot_set _)
  apply PyProof.Rows.callWith_type1 (PyProof.Rows.args_cons (thn (ha.run pins s σ H _ I h) _) na) na rfl
  rintro v s1 ⟨x, H1, I1, r1, l, xs, rfl, hl, few, q1⟩
  apply PyProof.Rows.args_nil
  cases r1
  obtain ⟨its, rv, pl, hz⟩ := I1.list hl
  apply call_setS xs (I1.ok.hd hc) pl.isList (by rw [List.toList_toArray]; exact sAre_of rv) few
  intro h' tk ⟨o, es, ep, t, ho, hex, hd, _, _, _, hf, hn⟩ k
  apply PyProof.Rows.args_nil
  have I2 : Inv X pins σ H1 { s1 with heap := h', toks := tk } := I1.kept fun b o e => k b o e
  have le := cnt_le xs
  exact call_len_set ho hex hd hf (by rw [hn]; omega) ⟨.int (cnt xs : Nat), H1, I2.tok _, ⟨_, by rw [hn]⟩, q1⟩
end
end Kx
/-! Further rules of the layer. -/
namespace Kx
open PySem PySem.Spec PyProof.Rows L2
section
variable {X : Cx}
/-- a power of a great number -/
theorem op_powX : OpR X (binaryOp .Pow) (rI (fun i j => 0 ≤ j ∧ (Builtin.Int.intBits i : Int) * j ≤ 2 ^ 27) fun i j => .int (i ^ j.toNat)) :=
  opI fun _ _ _ _ _ _ _ hc q => pow_int hc.1 hc.2 q
/-- one item more than a list's -/
theorem meets_extend_tup (l : Addr) (items : Array Value) (n : Nat) (b : Addr) (items2 : Array Value) (n2 : Nat) (od : Option Addr) (osl : Array (Option Value)) (hs0 : ¬(!items.isEmpty && Builtin.List.listTooLong (items.size + items2.size)) = true) (hs1 : items.size ≤ sizeLine) (hs2 : items.size + items2.size ≤ sizeLine + 1) :
    Meets (Builtin.«list.extend» ⟨[.ref l, .ref b], []⟩) (fun _ R s => s.heap.get? l = some { cls := .type "list", dict := none, data := .seq items n, slots := #[] } ∧ s.heap.get? b = some { cls := .type "tuple", dict := od, data := .seq items2 n2, slots := osl } ∧
      R (.ok (.ret Value.none)) { s with heap := s.heap.update l (Obj.mapSeq fun x => x ++ items2), toks := s.toks }) :=
  .of_wp fun prog w A R s h => by
    obtain ⟨hp, g, d, tk, os⟩ := s
    obtain ⟨hl, hb, h⟩ := h
    have f1 := AutoSeq1.idx_int
    have f2 := AutoSeq1.sub_tuple_tuple
    have f3 := AutoSeq1.sub_list_list
    have f4 := AutoSeq1.sub_tuple_list
    have f5 := AutoSeq1.sub_list_tuple
    have hz' : (items ++ items2).size ≤ sizeLine + 1 := by
      rw [Array.size_append]
      exact hs2
    wp_walk using (wpAny_updateSeq hl rfl (hz := hs1) (_hz' := hz')), AutoSeq1.wpAny_loadPart' hl, AutoSeq1.wpAny_loadPart' hb
    exact ⟨_, rfl, h⟩
/-- xs.extend(t), t a tuple -/
def rExtT (K : PySem.W.Frag) : V → List V → Hp → VK → Prop := fun x vs H Q => ∃ l b xs zs, x = .ref l ∧ vs = [.ref b] ∧ H l = some (.lst xs) ∧ SqT K H b zs ∧ xs.length + zs.length ≤ sizeLine ∧ Q .non (upd H l (.lst (xs ++ zs)))
theorem mt_extT : MtM X "list.extend" (rExtT X.K) := by
  intro pins s σ H x vs v us Q I rx rv h
  obtain ⟨l, b, xs, zs, rfl, rfl, hH, hB, hz, q⟩ := h
  cases rx
  obtain ⟨u, rfl, ru⟩ := rv.one
  cases ru
  obtain ⟨z, its, n, r, hl, e⟩ := I.lstM hH
  obtain ⟨its2, r2, ⟨⟨oc, od, odt, osl⟩, e2, hc, n2, hd⟩, z2⟩ := I.tuple hB
  dsimp only at hc hd
  subst hc hd
  have sz : its.toArray.size + its2.toArray.size ≤ sizeLine := by
    rw [List.size_toArray, List.size_toArray, ← r.length, ← r2.length]
    exact hz
  refine call_meets F.slot_list_extend ⟨_, e, rfl⟩ F.entry_list_extend (F.args_list_extend_2 _ _)
    (meets_extend_tup l its.toArray n b its2.toArray n2 od osl ?_ ?_ ?_) ⟨e, e2, ?_⟩
  · rw [notLongL sz, Bool.and_false]
    exact Bool.false_ne_true
  · omega
  · omega
  · refine ⟨.non, _, I.lset (its' := its ++ its2) hH e (by simp) (r.append r2) ?_, rfl, q⟩
    rw [List.length_append]
    exact hz
end
end Kx
/-! Defs that are called where no repr runs: the layer's promise of a def, with that told. -/
namespace Kx
open PySem PySem.Spec PyProof.Rows L2
/-- nothing around A shows itself -/
def Calm (A : Around) : Prop := A.guards = some []
/-- as FnOk, where nothing around shows itself -/
structure FnG (P : Program) (w : World) (K : PySem.W.Frag) (mg : Str → Option Value) (base : Heap) (k : Nat) (f : Addr) (fd : FuncData) (ps : List Str) (sp : Sp) : Prop where
  len : ∀ vs H Q E, sp vs H Q E → vs.length = ps.length
  run : ∀ (A : Around) (outer : List Env) (s : Shared) (H : Hp) (args : Args) (us : List Value) (vs : List V) (Q : VK) (E : XK), Calm A → Room k A → Env0 P w K mg base A outer s H → BindsTo s fd args (ps.zip us) → Vals vs us → sp vs H Q E →
    codeAny (model P w) A (.call (.ref f) args) (CR CX0 outer P w H s Q E) s
theorem calm_deeper {A : Around} {env : Env} (h : Calm A) : Calm (A.deeper env) := by
  unfold Calm at *
  show (A.deeper env).guards = some []
  simp [Around.deeper, h]
section
variable {P : Program} {w : World} {K : PySem.W.Frag} {mg : Str → Option Value} {base : Heap}
theorem fnG_mono {j k : Nat} {f : Addr} {fd : FuncData} {ps : List Str} {sp : Sp} (F : FnG P w K mg base j f fd ps sp) (h : j ≤ k) : FnG P w K mg base k f fd ps sp :=
  ⟨F.len, fun A outer s H args us vs Q E c hr => F.run A outer s H args us vs Q E c (hr.mono h)⟩
/-- THE RULE: a def of the text by its body -/
theorem okG {x qual : Str} {st : Stmt} {f : Addr} {fd : FuncData} {N ps : List Str} {k : Nat} {sp : Sp} (F : Fun K x qual st f fd) (S : FnScope N ps (defScope st)) (len : ∀ vs H Q E, sp vs H Q E → vs.length = ps.length)
    (hbody : ∀ (cdv : Value) (A : Around) (outer : List Env) (s : Shared) (H : Hp) (vs : List V) (Q : VK) (E : XK), Calm (A.deeper (envOfC qual (defScope st) s.heap.objs.size f cdv)) → Room k (A.deeper (envOfC qual (defScope st) s.heap.objs.size f cdv)) → sp vs H Q E →
      ∃ t, PSs (cxOf CX0 P w K mg base N qual (defScope st) f cdv A outer s H E).nox (defBody st) t ∧ t { nx := fun _ H' => Q .non H', rt := Q } (start N vs) H) : FnG P w K mg base (k + 1) f fd ps sp := by
  obtain ⟨oc, od, kV, doc, pm, an, cdv, ct, osl, rfl, lk, hcd⟩ := F.ex
  constructor
  · exact len
  intro A outer s H args us vs Q E cm hr e0 hb r hsp
  have nl := len _ _ _ _ hsp
  have kin : K.In s.heap := e0.mod.kin.keeps fun b o e => (e0.bs b o e).1
  have lim : s.heap.NoLimit := e0.mod.nolimit.keeps fun b o e => (e0.bs b o e).1
  refine codeAny_call_function hr.depth (kin _ _ lk) rfl S.co S.gen rfl (PySem.W.codeRec_of kin hcd) (hb _ _ _ _ (wpAny_newFunctionEnv_cells S.kind ?_ ?_))
  · rintro ⟨n, v⟩ hy
    rcases S.par n (List.of_mem_zip hy).1 with q | q
    · exact .inl q
    · exact .inr ⟨q, PySem.W.cellsFrom_some _ _ _ (.inl q)⟩
  rintro env rfl s1 x
  refine ⟨lim.keeps x.toInCall.keep, codeAny_func ?_⟩
  obtain ⟨t, ht, hq⟩ := hbody cdv A outer s H vs Q E (calm_deeper cm) (hr.deeper _) hsp
  have J0 := inv_start (CX := CX0) (f := f) (cd := cdv) (E := E) (qual := qual) S hr.hd e0 nl r x
  refine wpAny_mono (ht.nox.run [] s1 _ H _ J0 hq) ?_ fun e s' hs => hs
  intro fl s' hs
  rcases fl with _ | _ | _ | u
  · obtain ⟨σ', H', J, q⟩ := hs
    exact ⟨.non, H', J.os, J.bare, J.base, J.hok, rfl, q⟩
  · obtain ⟨_, _, _, q⟩ := hs
    exact q.elim
  · obtain ⟨_, _, _, q⟩ := hs
    exact q.elim
  · obtain ⟨v, σ', H', J, rv, q⟩ := hs
    exact ⟨v, H', J.os, J.bare, J.base, J.hok, rv, q⟩
end
section
variable {X : Cx} {k : Nat} {f : Addr} {fd : FuncData} {ps : List Str} {sp : Sp} {x : Str} {p pos : Pos} {e : Expr} {es : List Expr} {t : TA} {ds : List Value} {dvs : List V} {E : XK}
/-- f(e, ..) for such a def -/
theorem pe_callG (F : FnG X.prog X.w X.K X.mg X.base k f fd ps sp) (cm : Calm X.A) (hr : Room k X.A) (hg : Gl X x) (hm : X.mg x = some (.ref f)) (hk : PySem.W.keepIn X.K (.ref f) = true) (hb : Binds X.K fd ps [])
    (ha : PA X (e :: es) t) (hdb : (x == ("__debug__" : Str)) = false := by decide) (he : starEach (e :: es) X.env = (false, eval e X.env) :: starEach es X.env := by rfl) (hpl : (backTo pos (starEach es X.env)).any (·.1) = false := by rfl) :
    PE X (.Call (.Name x p) (e :: es) [] pos) (tCall sp [] E0 t) := by
  refine ⟨fun pins s σ H Q I h => wpAny_Call_Name_kw (ld_glob I hg hm ?_ hdb)⟩
  refine PySem.W.callWith_K (h₀ := X.base) I.ok.mod.kin hk (thn (ha.run pos pins s σ H _ I h) ?_) he hpl
  rintro us s1 ⟨vs, H1, I1, r, q⟩
  refine ⟨I1.kIn, ?_⟩
  rw [List.append_nil] at q
  have hl : us.length = ps.length := by
    rw [← r.length]
    exact F.len _ _ _ _ q
  have hb' := hb s1 us I1.kIn (by rw [List.append_nil]; exact hl)
  rw [List.append_nil] at hb'
  refine wpAny_call (codeAny_mono (F.run X.A X.stack s1 H1 ⟨us, []⟩ us vs Q E0 cm hr I1.env0 hb' r q) ?_)
  intro r2 s' hq
  rcases r2 with z | fl
  · exact hq.elim
  rcases fl with _ | _ | _ | u
  · exact hq.elim
  · exact hq.elim
  · exact hq.elim
  · exact I1.after hq
end

section
variable {P : Program} {w : World} {K : PySem.W.Frag} {mg mb : Str → Option Value} {k : Nat} {fa a : Addr} {fd : FuncData} {x : Str} {sp : Sp} {s₁ : Shared} {vs : List Value} {ns : List Int}
/-- what the law's call starts from, over an abstract heap H in which the script alone may stand -/
theorem law_from {H : Hp} (hO : Only H) (hS : SqL K H a (ns.map V.int)) (hok : HOk P w H s₁.heap) (hA : ∀ b, H b ≠ none → b = a) (hK : H a ≠ none → K.lookup a = none)
    (KX : K.In s₁.heap) (hns : s₁.heap.Ns mainGlobals mg) (hb : s₁.heap.Ns builtinsNs mb) (hbb : ∀ x : Str, x ≠ "__name__" → mb x = bootBuiltins x) (hlim : s₁.heap.NoLimit) (hg : s₁.gens = #[])
    (ha : s₁.heap.get? a = some { cls := .type "list", data := .seq vs.toArray }) (hr : Room k callerA)
    (F : ∀ base : Heap, K.In base → base.Ns mainGlobals mg → FnG P w K mg base k fa fd [x] sp) (hbind : ∀ (s : Shared) (u : Value), BindsTo s fd ⟨[u], []⟩ [(x, u)])
    (hsp : sp [.ref a] H (fun v _ => v = .bl true) fun _ _ _ => False) :
    codeAny (model P w) callerA (.call (.ref fa) ⟨[.ref a], []⟩) (fun r s' => r = .ok (.ret (.bool true)) ∧ OldK s₁.heap s'.heap ∧ s'.os = s₁.os ∧ AllBare s'.gens) s₁ := by
  have hid : ∀ {b o}, s₁.heap.get? b = some o → H b = none → (hidT s₁.heap H).get? b = some o := fun e n => hidT_get e n
  have free : ∀ {b : Addr} {o : Obj} {es : Array DictEntry} {ep : Nat}, s₁.heap.get? b = some o → o.data = .dict es ep → H b = none := by
    intro b o es ep e d
    cases q : H b with
    | none => rfl
    | some u =>
      have z := hA b (by simp [q])
      subst z
      rw [ha] at e
      cases e
      cases d
  have ns_of : ∀ {b : Addr} {m : Str → Option Value}, s₁.heap.Ns b m → (hidT s₁.heap H).Ns b m := by
    rintro b m ⟨o, es, ep, e, d, r⟩
    exact ⟨o, es, ep, hid e (free e d), d, r⟩
  have kin : K.In (hidT s₁.heap H) := by
    intro b o e
    refine hid (KX b o e) ?_
    cases q : H b with
    | none => rfl
    | some u =>
      have z := hA b (by simp [q])
      subst z
      rw [hK (by simp [q])] at e
      cases e
  have md : Mod K mg (hidT s₁.heap H) := by
    obtain ⟨mc, h1, h2⟩ := hlim
    exact ⟨kin, ns_of hns, ⟨mb, ns_of hb, hbb⟩, mc, ns_of h1, h2⟩
  have e0 : Env0 P w K mg (hidT s₁.heap H) callerA [] s₁ H := ⟨rfl, md, fun b o e => of_hidT e, Nat.le_of_eq (hidT_size _ _), trivial, fun b hb => (nomatch (show b ∈ ([] : List Addr) from hb)), hok, .of_eq hg⟩
  refine codeAny_mono ((F _ kin (ns_of hns)).run callerA [] s₁ H ⟨[.ref a], []⟩ [Value.ref a] [V.ref a] (fun v _ => v = .bl true) (fun _ _ _ => False) rfl hr e0 (hbind s₁ (.ref a)) (.cons rfl .nil) hsp) ?_
  intro r s' h
  rcases r with e | fl
  · exact h.elim
  rcases fl with _ | _ | _ | u
  · exact h.elim
  · exact h.elim
  · exact h.elim
  obtain ⟨v, H', os, bare, un, hok', r', q⟩ := h
  obtain rfl : v = .bl true := q
  obtain rfl : u = Value.bool true := r'
  refine ⟨rfl, OldK.of_keep fun b o e => ?_, os, bare⟩
  cases q : H b with
  | none => exact un.keep b o e q (fun z => (nomatch (show b ∈ ([] : List Addr) from z))) (fun z => nomatch z)
  | some u =>
    rcases hO b with z | ⟨ob, xs, z⟩
    · rw [q] at z
      cases z
    · obtain ⟨e1, _⟩ := hok b _ z
      obtain ⟨e2, _⟩ := hok' b _ (un.frzs b ob _ z)
      rw [e] at e1
      cases e1
      exact e2
theorem law_callG (KX : K.In s₁.heap) (hns : s₁.heap.Ns mainGlobals mg) (hb : s₁.heap.Ns builtinsNs mb) (hbb : ∀ x : Str, x ≠ "__name__" → mb x = bootBuiltins x) (hlim : s₁.heap.NoLimit) (hg : s₁.gens = #[])
    (ha : s₁.heap.get? a = some { cls := .type "list", data := .seq vs.toArray }) (hi : IntsAre vs ns) (hl : ns.length ≤ sizeLine) (hr : Room k callerA)
    (F : ∀ base : Heap, K.In base → base.Ns mainGlobals mg → FnG P w K mg base k fa fd [x] sp) (hbind : ∀ (s : Shared) (u : Value), BindsTo s fd ⟨[u], []⟩ [(x, u)])
    (hsp : ∀ H : Hp, Only H → SqL K H a (ns.map V.int) → sp [.ref a] H (fun v _ => v = .bl true) fun _ _ _ => False) :
    codeAny (model P w) callerA (.call (.ref fa) ⟨[.ref a], []⟩) (fun r s' => r = .ok (.ret (.bool true)) ∧ OldK s₁.heap s'.heap ∧ s'.os = s₁.os ∧ AllBare s'.gens) s₁ := by
  have rv := vals_ints hi
  have nv := hi.length
  cases hk : K.lookup a with
  | some o =>
    have e := KX a o hk
    rw [ha] at e
    cases e
    have S : SqL K (fun _ => none) a (ns.map V.int) := .inr ⟨_, vs.toArray, _, hk, rfl, rfl, rfl, by rw [List.size_toArray, nv]; exact hl, by simpa using rv⟩
    have O : Only (fun _ => none) := fun _ => .inl rfl
    exact law_from (H := fun _ => none) O S (fun b u z => (by cases (show (none : Option HO) = some u from z))) (fun b z => absurd rfl z) (fun z => absurd rfl z) KX hns hb hbb hlim hg ha hr F hbind (hsp _ O S)
  | none =>
    let ob : Obj := { cls := .type "list", data := .seq vs.toArray }
    let H : Hp := fun b => if b = a then some (.frz ob (.lst (ns.map V.int))) else none
    have at_ : H a = some (.frz ob (.lst (ns.map V.int))) := if_pos rfl
    have off : ∀ b, b ≠ a → H b = none := fun b h => if_neg h
    have S : SqL K H a (ns.map V.int) := .inl (.inr ⟨ob, at_⟩)
    have O : Only H := fun b => by
      by_cases h : b = a
      · subst h
        exact .inr ⟨_, _, at_⟩
      · exact .inl (off b h)
    refine law_from O S (fun b u z => ?_) (fun b z => ?_) (fun _ => hk) KX hns hb hbb hlim hg ha hr F hbind (hsp _ O S)
    · by_cases h : b = a
      · subst h
        rw [at_] at z
        cases z
        exact ⟨ha, by rw [List.length_map]; exact hl, vs, _, rv, ha⟩
      · rw [off b h] at z
        cases z
    · by_cases h : b = a
      · exact h
      · exact absurd (off b h) z
end
/-- as walk_of, for such a law -/
theorem walk_ofG {l : PySem.W.OpenLaw} {n k : Nat} {q : Program} {loose : List Str} {XP : (Str → Option Value) → Heap → Prop} {YP : World → Heap → Prop} {d : DefRec} {K : Params → PySem.W.Frag} {sp : World → Sp} {x : Str}
    (hn : l.most = some n) (hn2 : n ≤ sizeLine) (hdf : d.params.defaults = []) (hr : Room k callerA) (hY : ∀ (w : World) (h : Heap), YP w h → (K w.params).In h)
    (F : ∀ (w : World) (mg : Str → Option Value) (fa : Addr) (h : Heap), (K w.params).In h → h.Ns mainGlobals mg → mg d.name = some (.ref fa) →
      ∃ fd : FuncData, (∀ (s : Shared) (u : Value), BindsTo s fd ⟨[u], []⟩ [(x, u)]) ∧ ∀ base : Heap, (K w.params).In base → base.Ns mainGlobals mg → FnG l.prog w (K w.params) mg base k fa fd [x] (sp w))
    (hsp : ∀ (w : World) (H : Hp) (a : Addr) (ns : List Int), ns.length ≤ n → Only H → SqL (K w.params) H a (ns.map V.int) → sp w [.ref a] H (fun v _ => v = .bl true) fun _ _ _ => False) :
    PySem.W.WalkO q loose XP YP l.row.toRowW d [] (fun f vs => PySem.call f vs) := by
  refine Att.attach_call hn hdf ?_
  intro w s₀ s₁ mg mb fa o pm cd doc a vs ns G Y ho hd hcd hmg hobj hints hlen hg
  have KX := hY w _ Y
  obtain ⟨fd, hb, hF⟩ := F w mg fa _ KX G.T.g hmg
  exact law_callG KX G.T.g G.T.b G.T.builtins G.T.nolimit hg hobj hints (Nat.le_trans hlen hn2) hr hF hb fun H hO hS => hsp w H a ns hlen hO hS
end Kx
/-! The text by places, and what its top leaves. Made by mkbase.py. -/
namespace K05
open PySem PySem.Spec PyProof.Rows L2 Kx
def top (i : Nat) : Stmt := PySem.Challenge.pw_shownpart_k05_errors_of_terms.main.body.getD i (.Pass ⟨0, 0, 0, 0⟩)
abbrev s_preorder : Stmt := top 3
abbrev N_preorder : List Str := ["terms", "found", "waiting", "part"]
theorem sc_preorder : FnScope N_preorder ["terms"] (defScope s_preorder) := ⟨rfl, rfl, rfl, by decide +kernel, rfl, by decide +kernel, by decide +kernel⟩
abbrev s_written : Stmt := top 4
abbrev N_written : List Str := ["term", "words", "waiting", "part", "below"]
theorem sc_written : FnScope N_written ["term"] (defScope s_written) := ⟨rfl, rfl, rfl, by decide +kernel, rfl, by decide +kernel, by decide +kernel⟩
abbrev s_numbered : Stmt := top 5
abbrev N_numbered : List Str := ["parts"]
theorem sc_numbered : FnScope N_numbered ["parts"] (defScope s_numbered) := ⟨rfl, rfl, rfl, by decide +kernel, rfl, by decide +kernel, by decide +kernel⟩
abbrev s_numbered_rows : Stmt := top 6
abbrev N_numbered_rows : List Str := ["parts", "table", "ready", "numbers", "part", "below", "number", "_"]
theorem sc_numbered_rows : FnScope N_numbered_rows ["parts"] (defScope s_numbered_rows) := ⟨rfl, rfl, rfl, by decide +kernel, rfl, by decide +kernel, by decide +kernel⟩
abbrev s_sizes_of : Stmt := top 7
abbrev N_sizes_of : List Str := ["rows", "sizes", "row", "number"]
theorem sc_sizes_of : FnScope N_sizes_of ["rows"] (defScope s_sizes_of) := ⟨rfl, rfl, rfl, by decide +kernel, rfl, by decide +kernel, by decide +kernel⟩
abbrev s_occurs : Stmt := top 8
abbrev N_occurs : List Str := ["term", "other", "many", "numbers"]
theorem sc_occurs : FnScope N_occurs ["term", "other"] (defScope s_occurs) := ⟨rfl, rfl, rfl, by decide +kernel, rfl, by decide +kernel, by decide +kernel⟩
abbrev s_put_in : Stmt := top 9
abbrev N_put_in : List Str := ["term", "old", "new", "many", "parts", "numbers", "ready", "k", "below", "_"]
theorem sc_put_in : FnScope N_put_in ["term", "old", "new"] (defScope s_put_in) := ⟨rfl, rfl, rfl, by decide +kernel, rfl, by decide +kernel, by decide +kernel⟩
abbrev s_with_names : Stmt := top 10
abbrev N_with_names : List Str := ["term", "names", "ready", "part", "below", "_"]
theorem sc_with_names : FnScope N_with_names ["term", "names"] (defScope s_with_names) := ⟨rfl, rfl, rfl, by decide +kernel, rfl, by decide +kernel, by decide +kernel⟩
abbrev s_ascending : Stmt := top 11
abbrev N_ascending : List Str := ["terms", "parts", "numbers", "rows", "found", "number", "part"]
theorem sc_ascending : FnScope N_ascending ["terms"] (defScope s_ascending) := ⟨rfl, rfl, rfl, by decide +kernel, rfl, by decide +kernel, by decide +kernel⟩
abbrev s_order_of : Stmt := top 12
abbrev N_order_of : List Str := ["rows", "texts", "row", "below", "found", "number", "text"]
theorem sc_order_of : FnScope N_order_of ["rows"] (defScope s_order_of) := ⟨rfl, rfl, rfl, by decide +kernel, rfl, by decide +kernel, by decide +kernel⟩
abbrev s_order_by_ranks : Stmt := top 13
abbrev N_order_by_ranks : List Str := ["rows", "number", "inner", "waiting", "numbers", "rank", "places", "found", "row", "k"]
theorem sc_order_by_ranks : FnScope N_order_by_ranks ["rows"] (defScope s_order_by_ranks) := ⟨rfl, rfl, rfl, by decide +kernel, rfl, by decide +kernel, by decide +kernel⟩
abbrev s_ranked : Stmt := top 14
abbrev N_ranked : List Str := ["names", "many", "width", "ranks", "further", "k"]
theorem sc_ranked : FnScope N_ranked ["names"] (defScope s_ranked) := ⟨rfl, rfl, rfl, by decide +kernel, rfl, by decide +kernel, by decide +kernel⟩
abbrev s_dense : Stmt := top 15
abbrev N_dense : List Str := ["keys", "ranks", "rank", "key"]
theorem sc_dense : FnScope N_dense ["keys"] (defScope s_dense) := ⟨rfl, rfl, rfl, by decide +kernel, rfl, by decide +kernel, by decide +kernel⟩
abbrev s_is_name : Stmt := top 31
abbrev N_is_name : List Str := ["value"]
theorem sc_is_name : FnScope N_is_name ["value"] (defScope s_is_name) := ⟨rfl, rfl, rfl, by decide +kernel, rfl, by decide +kernel, by decide +kernel⟩
abbrev s_is_term : Stmt := top 32
abbrev N_is_term : List Str := ["value"]
theorem sc_is_term : FnScope N_is_term ["value"] (defScope s_is_term) := ⟨rfl, rfl, rfl, by decide +kernel, rfl, by decide +kernel, by decide +kernel⟩
abbrev s_make_term : Stmt := top 33
abbrev N_make_term : List Str := ["name", "terms", "result"]
theorem sc_make_term : FnScope N_make_term ["name", "terms"] (defScope s_make_term) := ⟨rfl, rfl, rfl, by decide +kernel, rfl, by decide +kernel, by decide +kernel⟩
abbrev s_make_cells : Stmt := top 34
abbrev N_make_cells : List Str := ["names", "name"]
theorem sc_make_cells : FnScope N_make_cells ["names"] (defScope s_make_cells) := ⟨rfl, rfl, rfl, by decide +kernel, rfl, by decide +kernel, by decide +kernel⟩
abbrev s_places_of : Stmt := top 35
abbrev N_places_of : List Str := ["term"]
theorem sc_places_of : FnScope N_places_of ["term"] (defScope s_places_of) := ⟨rfl, rfl, rfl, by decide +kernel, rfl, by decide +kernel, by decide +kernel⟩
abbrev s_levels : Stmt := top 36
abbrev N_levels : List Str := ["term", "many", "level", "part", "below"]
theorem sc_levels : FnScope N_levels ["term"] (defScope s_levels) := ⟨rfl, rfl, rfl, by decide +kernel, rfl, by decide +kernel, by decide +kernel⟩
abbrev s_size_of : Stmt := top 37
abbrev N_size_of : List Str := ["term"]
theorem sc_size_of : FnScope N_size_of ["term"] (defScope s_size_of) := ⟨rfl, rfl, rfl, by decide +kernel, rfl, by decide +kernel, by decide +kernel⟩
abbrev s_subterms : Stmt := top 38
abbrev N_subterms : List Str := ["term", "part"]
theorem sc_subterms : GScope N_subterms ["term"] (defScope s_subterms) := ⟨rfl, rfl, rfl, by decide +kernel, rfl, by decide +kernel, by decide +kernel⟩
abbrev s_stands_in : Stmt := top 39
abbrev N_stands_in : List Str := ["term", "other"]
theorem sc_stands_in : FnScope N_stands_in ["term", "other"] (defScope s_stands_in) := ⟨rfl, rfl, rfl, by decide +kernel, rfl, by decide +kernel, by decide +kernel⟩
abbrev s_replaced : Stmt := top 40
abbrev N_replaced : List Str := ["term", "old", "new", "result"]
theorem sc_replaced : FnScope N_replaced ["term", "old", "new"] (defScope s_replaced) := ⟨rfl, rfl, rfl, by decide +kernel, rfl, by decide +kernel, by decide +kernel⟩
abbrev s_renamed : Stmt := top 41
abbrev N_renamed : List Str := ["term", "names"]
theorem sc_renamed : FnScope N_renamed ["term", "names"] (defScope s_renamed) := ⟨rfl, rfl, rfl, by decide +kernel, rfl, by decide +kernel, by decide +kernel⟩
abbrev s_renamed_by : Stmt := top 42
abbrev N_renamed_by : List Str := ["term", "names"]
theorem sc_renamed_by : FnScope N_renamed_by ["term", "names"] (defScope s_renamed_by) := ⟨rfl, rfl, rfl, by decide +kernel, rfl, by decide +kernel, by decide +kernel⟩
abbrev s_text_of : Stmt := top 43
abbrev N_text_of : List Str := ["term"]
theorem sc_text_of : FnScope N_text_of ["term"] (defScope s_text_of) := ⟨rfl, rfl, rfl, by decide +kernel, rfl, by decide +kernel, by decide +kernel⟩
abbrev s_check_term : Stmt := top 44
abbrev N_check_term : List Str := ["value"]
theorem sc_check_term : FnScope N_check_term ["value"] (defScope s_check_term) := ⟨rfl, rfl, rfl, by decide +kernel, rfl, by decide +kernel, by decide +kernel⟩
abbrev s_check_renaming : Stmt := top 45
abbrev N_check_renaming : List Str := ["places", "names", "name"]
theorem sc_check_renaming : FnScope N_check_renaming ["places", "names"] (defScope s_check_renaming) := ⟨rfl, rfl, rfl, by decide +kernel, rfl, by decide +kernel, by decide +kernel⟩
abbrev s_joint_places : Stmt := top 46
abbrev N_joint_places : List Str := ["values", "places", "waiting", "part", "many"]
theorem sc_joint_places : FnScope N_joint_places ["values"] (defScope s_joint_places) := ⟨rfl, rfl, rfl, by decide +kernel, rfl, by decide +kernel, by decide +kernel⟩
abbrev s_has_form : Stmt := top 47
abbrev N_has_form : List Str := ["value"]
theorem sc_has_form : FnScope N_has_form ["value"] (defScope s_has_form) := ⟨rfl, rfl, rfl, by decide +kernel, rfl, by decide +kernel, by decide +kernel⟩
abbrev s_by_name : Stmt := top 48
abbrev N_by_name : List Str := ["places", "name"]
theorem sc_by_name : FnScope N_by_name ["places"] (defScope s_by_name) := ⟨rfl, rfl, rfl, by decide +kernel, rfl, by decide +kernel, by decide +kernel⟩
abbrev s__law_dice : Stmt := top 50
abbrev N__law_dice : List Str := ["script", "spot", "cell", "great", "mixed"]
theorem sc__law_dice : FnScope N__law_dice ["script", "spot"] (defScope s__law_dice) := ⟨rfl, rfl, rfl, by decide +kernel, rfl, by decide +kernel, by decide +kernel⟩
abbrev s__law_roll : Stmt := top 51
abbrev N__law_roll : List Str := ["dice", "many", "found", "one", "two"]
theorem sc__law_roll : FnScope N__law_roll ["dice", "many"] (defScope s__law_roll) := ⟨rfl, rfl, rfl, by decide +kernel, rfl, by decide +kernel, by decide +kernel⟩
abbrev s__law_pick : Stmt := top 52
abbrev N__law_pick : List Str := ["dice", "items"]
theorem sc__law_pick : FnScope N__law_pick ["dice", "items"] (defScope s__law_pick) := ⟨rfl, rfl, rfl, by decide +kernel, rfl, by decide +kernel, by decide +kernel⟩
abbrev s__law_mixed : Stmt := top 53
abbrev N__law_mixed : List Str := ["dice", "items", "left", "found"]
theorem sc__law_mixed : FnScope N__law_mixed ["dice", "items"] (defScope s__law_mixed) := ⟨rfl, rfl, rfl, by decide +kernel, rfl, by decide +kernel, by decide +kernel⟩
abbrev s__law_names : Stmt := top 54
abbrev N__law_names : List Str := ["dice", "few", "pools", "cells", "name", "found"]
theorem sc__law_names : FnScope N__law_names ["dice", "few"] (defScope s__law_names) := ⟨rfl, rfl, rfl, by decide +kernel, rfl, by decide +kernel, by decide +kernel⟩
abbrev s__law_term : Stmt := top 55
abbrev N__law_term : List Str := ["dice", "names", "deep", "some", "name", "places", "row", "turn"]
theorem sc__law_term : FnScope N__law_term ["dice", "names", "deep"] (defScope s__law_term) := ⟨rfl, rfl, rfl, by decide +kernel, rfl, by decide +kernel, by decide +kernel⟩
abbrev s__law_odd : Stmt := top 56
abbrev N__law_odd : List Str := ["dice", "some"]
theorem sc__law_odd : FnScope N__law_odd ["dice"] (defScope s__law_odd) := ⟨rfl, rfl, rfl, by decide +kernel, rfl, by decide +kernel, by decide +kernel⟩
abbrev s__law_odd_renaming : Stmt := top 57
abbrev N__law_odd_renaming : List Str := ["dice", "some"]
theorem sc__law_odd_renaming : FnScope N__law_odd_renaming ["dice"] (defScope s__law_odd_renaming) := ⟨rfl, rfl, rfl, by decide +kernel, rfl, by decide +kernel, by decide +kernel⟩
abbrev s__law_raised : Stmt := top 58
abbrev N__law_raised : List Str := ["call", "e", "kinds", "words"]
theorem sc__law_raised : FnScope N__law_raised ["call"] (defScope s__law_raised) := ⟨rfl, rfl, rfl, by decide +kernel, rfl, by decide +kernel, by decide +kernel⟩
abbrev s__law_made_right : Stmt := top 59
abbrev N__law_made_right : List Str := ["dice", "term", "told", "more", "odd"]
theorem sc__law_made_right : FnScope N__law_made_right ["dice", "term"] (defScope s__law_made_right) := ⟨rfl, rfl, rfl, by decide +kernel, rfl, by decide +kernel, by decide +kernel⟩
abbrev s__law_asked_right : Stmt := top 60
abbrev N__law_asked_right : List Str := ["dice", "term", "told", "odd", "asked"]
theorem sc__law_asked_right : FnScope N__law_asked_right ["dice", "term"] (defScope s__law_asked_right) := ⟨rfl, rfl, rfl, by decide +kernel, rfl, by decide +kernel, by decide +kernel⟩
abbrev s__law_changed_right : Stmt := top 61
abbrev N__law_changed_right : List Str := ["dice", "term", "kept", "told", "double", "names", "odd"]
theorem sc__law_changed_right : FnScope N__law_changed_right ["dice", "term"] (defScope s__law_changed_right) := ⟨rfl, rfl, rfl, by decide +kernel, rfl, by decide +kernel, by decide +kernel⟩
abbrev s_law : Stmt := top 62
abbrev N_law : List Str := ["script", "spot", "dice", "names", "turn", "term"]
theorem sc_law : FnScope N_law ["script"] (defScope s_law) := ⟨rfl, rfl, rfl, by decide +kernel, rfl, by decide +kernel, by decide +kernel⟩
/-- what the top leaves -/
structure Tx (K : PySem.W.Frag) (mg : Str → Option Value) where
  b_abs : mg "abs" = none
  b_all : mg "all" = none
  b_dict : mg "dict" = none
  b_enumerate : mg "enumerate" = none
  b_int : mg "int" = none
  b_isinstance : mg "isinstance" = none
  b_len : mg "len" = none
  b_list : mg "list" = none
  b_max : mg "max" = none
  b_min : mg "min" = none
  b_range : mg "range" = none
  b_repr : mg "repr" = none
  b_set : mg "set" = none
  b_sorted : mg "sorted" = none
  b_str : mg "str" = none
  b_sum : mg "sum" = none
  b_tuple : mg "tuple" = none
  b_zip : mg "zip" = none
  CInvalidName : Addr
  gInvalidName : mg "InvalidName" = some (.ref CInvalidName)
  xInvalidName : PySem.W.excIn K CInvalidName [.type "ValueError", .type "Exception", .type "BaseException", .type "object"] "ValueError.__new__" = true
  kInvalidName : PySem.W.keepIn K (.ref CInvalidName) = true
  bInvalidName : PySem.W.subIn K (.ref CInvalidName) (.type "BaseException") = some true
  tInvalidName : PySem.W.typeIn K (.ref CInvalidName) = some (.type "type")
  eInvalidName : PySem.W.exmOne K (.ref CInvalidName) (.ref CInvalidName) = some true
  CInvalidTerm : Addr
  gInvalidTerm : mg "InvalidTerm" = some (.ref CInvalidTerm)
  xInvalidTerm : PySem.W.excIn K CInvalidTerm [.type "ValueError", .type "Exception", .type "BaseException", .type "object"] "ValueError.__new__" = true
  kInvalidTerm : PySem.W.keepIn K (.ref CInvalidTerm) = true
  bInvalidTerm : PySem.W.subIn K (.ref CInvalidTerm) (.type "BaseException") = some true
  tInvalidTerm : PySem.W.typeIn K (.ref CInvalidTerm) = some (.type "type")
  eInvalidTerm : PySem.W.exmOne K (.ref CInvalidTerm) (.ref CInvalidTerm) = some true
  CInvalidOperation : Addr
  gInvalidOperation : mg "InvalidOperation" = some (.ref CInvalidOperation)
  xInvalidOperation : PySem.W.excIn K CInvalidOperation [.type "ValueError", .type "Exception", .type "BaseException", .type "object"] "ValueError.__new__" = true
  kInvalidOperation : PySem.W.keepIn K (.ref CInvalidOperation) = true
  bInvalidOperation : PySem.W.subIn K (.ref CInvalidOperation) (.type "BaseException") = some true
  tInvalidOperation : PySem.W.typeIn K (.ref CInvalidOperation) = some (.type "type")
  eInvalidOperation : PySem.W.exmOne K (.ref CInvalidOperation) (.ref CInvalidOperation) = some true
  CPartError : Addr
  gPartError : mg "PartError" = some (.ref CPartError)
  CInvalidFact : Addr
  gInvalidFact : mg "InvalidFact" = some (.ref CInvalidFact)
  CInvalidBook : Addr
  gInvalidBook : mg "InvalidBook" = some (.ref CInvalidBook)
  CInvalidWorld : Addr
  gInvalidWorld : mg "InvalidWorld" = some (.ref CInvalidWorld)
  CInvalidCode : Addr
  gInvalidCode : mg "InvalidCode" = some (.ref CInvalidCode)
  CInvalidEdit : Addr
  gInvalidEdit : mg "InvalidEdit" = some (.ref CInvalidEdit)
  CParseError : Addr
  gParseError : mg "ParseError" = some (.ref CParseError)
  CInvalidCommand : Addr
  gInvalidCommand : mg "InvalidCommand" = some (.ref CInvalidCommand)
  c_FIRST_WIDTH : ∃ t, mg "FIRST_WIDTH" = some (.int 16 t)
  c_MANY_PARTS : ∃ t, mg "MANY_PARTS" = some (.int 100000 t)
  c_MAX_PLACES : ∃ t, mg "MAX_PLACES" = some (.int 3 t)
  c_LONGEST_NAME : ∃ t, mg "LONGEST_NAME" = some (.int 8 t)
  apreorder : Addr
  dpreorder : FuncData
  fpreorder : Fun K "preorder" "preorder" s_preorder apreorder dpreorder
  npreorder : Binds K dpreorder ["terms"] []
  gpreorder : mg "preorder" = some (.ref apreorder)
  awritten : Addr
  dwritten : FuncData
  fwritten : Fun K "written" "written" s_written awritten dwritten
  nwritten : Binds K dwritten ["term"] []
  gwritten : mg "written" = some (.ref awritten)
  anumbered : Addr
  dnumbered : FuncData
  fnumbered : Fun K "numbered" "numbered" s_numbered anumbered dnumbered
  nnumbered : Binds K dnumbered ["parts"] []
  gnumbered : mg "numbered" = some (.ref anumbered)
  anumbered_rows : Addr
  dnumbered_rows : FuncData
  fnumbered_rows : Fun K "numbered_rows" "numbered_rows" s_numbered_rows anumbered_rows dnumbered_rows
  nnumbered_rows : Binds K dnumbered_rows ["parts"] []
  gnumbered_rows : mg "numbered_rows" = some (.ref anumbered_rows)
  asizes_of : Addr
  dsizes_of : FuncData
  fsizes_of : Fun K "sizes_of" "sizes_of" s_sizes_of asizes_of dsizes_of
  nsizes_of : Binds K dsizes_of ["rows"] []
  gsizes_of : mg "sizes_of" = some (.ref asizes_of)
  aoccurs : Addr
  doccurs : FuncData
  foccurs : Fun K "occurs" "occurs" s_occurs aoccurs doccurs
  noccurs : Binds K doccurs ["term", "other"] []
  goccurs : mg "occurs" = some (.ref aoccurs)
  aput_in : Addr
  dput_in : FuncData
  fput_in : Fun K "put_in" "put_in" s_put_in aput_in dput_in
  nput_in : Binds K dput_in ["term", "old", "new"] []
  gput_in : mg "put_in" = some (.ref aput_in)
  awith_names : Addr
  dwith_names : FuncData
  fwith_names : Fun K "with_names" "with_names" s_with_names awith_names dwith_names
  nwith_names : Binds K dwith_names ["term", "names"] []
  gwith_names : mg "with_names" = some (.ref awith_names)
  aascending : Addr
  dascending : FuncData
  fascending : Fun K "ascending" "ascending" s_ascending aascending dascending
  nascending : Binds K dascending ["terms"] []
  gascending : mg "ascending" = some (.ref aascending)
  aorder_of : Addr
  dorder_of : FuncData
  forder_of : Fun K "order_of" "order_of" s_order_of aorder_of dorder_of
  norder_of : Binds K dorder_of ["rows"] []
  gorder_of : mg "order_of" = some (.ref aorder_of)
  aorder_by_ranks : Addr
  dorder_by_ranks : FuncData
  forder_by_ranks : Fun K "order_by_ranks" "order_by_ranks" s_order_by_ranks aorder_by_ranks dorder_by_ranks
  norder_by_ranks : Binds K dorder_by_ranks ["rows"] []
  gorder_by_ranks : mg "order_by_ranks" = some (.ref aorder_by_ranks)
  aranked : Addr
  dranked : FuncData
  franked : Fun K "ranked" "ranked" s_ranked aranked dranked
  nranked : Binds K dranked ["names"] []
  granked : mg "ranked" = some (.ref aranked)
  adense : Addr
  ddense : FuncData
  fdense : Fun K "dense" "dense" s_dense adense ddense
  ndense : Binds K ddense ["keys"] []
  gdense : mg "dense" = some (.ref adense)
  ais_name : Addr
  dis_name : FuncData
  fis_name : Fun K "is_name" "is_name" s_is_name ais_name dis_name
  nis_name : Binds K dis_name ["value"] []
  gis_name : mg "is_name" = some (.ref ais_name)
  ais_term : Addr
  dis_term : FuncData
  fis_term : Fun K "is_term" "is_term" s_is_term ais_term dis_term
  nis_term : Binds K dis_term ["value"] []
  gis_term : mg "is_term" = some (.ref ais_term)
  amake_term : Addr
  dmake_term : FuncData
  fmake_term : Fun K "make_term" "make_term" s_make_term amake_term dmake_term
  gmake_term : mg "make_term" = some (.ref amake_term)
  amake_cells : Addr
  dmake_cells : FuncData
  fmake_cells : Fun K "make_cells" "make_cells" s_make_cells amake_cells dmake_cells
  gmake_cells : mg "make_cells" = some (.ref amake_cells)
  aplaces_of : Addr
  dplaces_of : FuncData
  fplaces_of : Fun K "places_of" "places_of" s_places_of aplaces_of dplaces_of
  nplaces_of : Binds K dplaces_of ["term"] []
  gplaces_of : mg "places_of" = some (.ref aplaces_of)
  alevels : Addr
  dlevels : FuncData
  flevels : Fun K "levels" "levels" s_levels alevels dlevels
  nlevels : Binds K dlevels ["term"] []
  glevels : mg "levels" = some (.ref alevels)
  asize_of : Addr
  dsize_of : FuncData
  fsize_of : Fun K "size_of" "size_of" s_size_of asize_of dsize_of
  nsize_of : Binds K dsize_of ["term"] []
  gsize_of : mg "size_of" = some (.ref asize_of)
  asubterms : Addr
  dsubterms : FuncData
  fsubterms : Fun K "subterms" "subterms" s_subterms asubterms dsubterms
  nsubterms : Binds K dsubterms ["term"] []
  gsubterms : mg "subterms" = some (.ref asubterms)
  astands_in : Addr
  dstands_in : FuncData
  fstands_in : Fun K "stands_in" "stands_in" s_stands_in astands_in dstands_in
  nstands_in : Binds K dstands_in ["term", "other"] []
  gstands_in : mg "stands_in" = some (.ref astands_in)
  areplaced : Addr
  dreplaced : FuncData
  freplaced : Fun K "replaced" "replaced" s_replaced areplaced dreplaced
  nreplaced : Binds K dreplaced ["term", "old", "new"] []
  greplaced : mg "replaced" = some (.ref areplaced)
  arenamed : Addr
  drenamed : FuncData
  frenamed : Fun K "renamed" "renamed" s_renamed arenamed drenamed
  grenamed : mg "renamed" = some (.ref arenamed)
  arenamed_by : Addr
  drenamed_by : FuncData
  frenamed_by : Fun K "renamed_by" "renamed_by" s_renamed_by arenamed_by drenamed_by
  nrenamed_by : Binds K drenamed_by ["term", "names"] []
  grenamed_by : mg "renamed_by" = some (.ref arenamed_by)
  atext_of : Addr
  dtext_of : FuncData
  ftext_of : Fun K "text_of" "text_of" s_text_of atext_of dtext_of
  ntext_of : Binds K dtext_of ["term"] []
  gtext_of : mg "text_of" = some (.ref atext_of)
  acheck_term : Addr
  dcheck_term : FuncData
  fcheck_term : Fun K "check_term" "check_term" s_check_term acheck_term dcheck_term
  ncheck_term : Binds K dcheck_term ["value"] []
  gcheck_term : mg "check_term" = some (.ref acheck_term)
  acheck_renaming : Addr
  dcheck_renaming : FuncData
  fcheck_renaming : Fun K "check_renaming" "check_renaming" s_check_renaming acheck_renaming dcheck_renaming
  ncheck_renaming : Binds K dcheck_renaming ["places", "names"] []
  gcheck_renaming : mg "check_renaming" = some (.ref acheck_renaming)
  ajoint_places : Addr
  djoint_places : FuncData
  fjoint_places : Fun K "joint_places" "joint_places" s_joint_places ajoint_places djoint_places
  njoint_places : Binds K djoint_places ["values"] []
  gjoint_places : mg "joint_places" = some (.ref ajoint_places)
  ahas_form : Addr
  dhas_form : FuncData
  fhas_form : Fun K "has_form" "has_form" s_has_form ahas_form dhas_form
  nhas_form : Binds K dhas_form ["value"] []
  ghas_form : mg "has_form" = some (.ref ahas_form)
  aby_name : Addr
  dby_name : FuncData
  fby_name : Fun K "by_name" "by_name" s_by_name aby_name dby_name
  nby_name : Binds K dby_name ["places"] []
  gby_name : mg "by_name" = some (.ref aby_name)
  a_law_dice : Addr
  d_law_dice : FuncData
  f_law_dice : Fun K "_law_dice" "_law_dice" s__law_dice a_law_dice d_law_dice
  n_law_dice : Binds K d_law_dice ["script", "spot"] []
  g_law_dice : mg "_law_dice" = some (.ref a_law_dice)
  a_law_roll : Addr
  d_law_roll : FuncData
  f_law_roll : Fun K "_law_roll" "_law_roll" s__law_roll a_law_roll d_law_roll
  n_law_roll : Binds K d_law_roll ["dice", "many"] []
  g_law_roll : mg "_law_roll" = some (.ref a_law_roll)
  a_law_pick : Addr
  d_law_pick : FuncData
  f_law_pick : Fun K "_law_pick" "_law_pick" s__law_pick a_law_pick d_law_pick
  n_law_pick : Binds K d_law_pick ["dice", "items"] []
  g_law_pick : mg "_law_pick" = some (.ref a_law_pick)
  a_law_mixed : Addr
  d_law_mixed : FuncData
  f_law_mixed : Fun K "_law_mixed" "_law_mixed" s__law_mixed a_law_mixed d_law_mixed
  n_law_mixed : Binds K d_law_mixed ["dice", "items"] []
  g_law_mixed : mg "_law_mixed" = some (.ref a_law_mixed)
  a_law_names : Addr
  d_law_names : FuncData
  f_law_names : Fun K "_law_names" "_law_names" s__law_names a_law_names d_law_names
  n_law_names : Binds K d_law_names ["dice", "few"] []
  g_law_names : mg "_law_names" = some (.ref a_law_names)
  a_law_term : Addr
  d_law_term : FuncData
  f_law_term : Fun K "_law_term" "_law_term" s__law_term a_law_term d_law_term
  n_law_term : Binds K d_law_term ["dice", "names", "deep"] []
  g_law_term : mg "_law_term" = some (.ref a_law_term)
  a_law_odd : Addr
  d_law_odd : FuncData
  f_law_odd : Fun K "_law_odd" "_law_odd" s__law_odd a_law_odd d_law_odd
  n_law_odd : Binds K d_law_odd ["dice"] []
  g_law_odd : mg "_law_odd" = some (.ref a_law_odd)
  a_law_odd_renaming : Addr
  d_law_odd_renaming : FuncData
  f_law_odd_renaming : Fun K "_law_odd_renaming" "_law_odd_renaming" s__law_odd_renaming a_law_odd_renaming d_law_odd_renaming
  n_law_odd_renaming : Binds K d_law_odd_renaming ["dice"] []
  g_law_odd_renaming : mg "_law_odd_renaming" = some (.ref a_law_odd_renaming)
  a_law_raised : Addr
  d_law_raised : FuncData
  f_law_raised : Fun K "_law_raised" "_law_raised" s__law_raised a_law_raised d_law_raised
  n_law_raised : Binds K d_law_raised ["call"] []
  g_law_raised : mg "_law_raised" = some (.ref a_law_raised)
  a_law_made_right : Addr
  d_law_made_right : FuncData
  f_law_made_right : Fun K "_law_made_right" "_law_made_right" s__law_made_right a_law_made_right d_law_made_right
  n_law_made_right : Binds K d_law_made_right ["dice", "term"] []
  g_law_made_right : mg "_law_made_right" = some (.ref a_law_made_right)
  a_law_asked_right : Addr
  d_law_asked_right : FuncData
  f_law_asked_right : Fun K "_law_asked_right" "_law_asked_right" s__law_asked_right a_law_asked_right d_law_asked_right
  n_law_asked_right : Binds K d_law_asked_right ["dice", "term"] []
  g_law_asked_right : mg "_law_asked_right" = some (.ref a_law_asked_right)
  a_law_changed_right : Addr
  d_law_changed_right : FuncData
  f_law_changed_right : Fun K "_law_changed_right" "_law_changed_right" s__law_changed_right a_law_changed_right d_law_changed_right
  n_law_changed_right : Binds K d_law_changed_right ["dice", "term"] []
  g_law_changed_right : mg "_law_changed_right" = some (.ref a_law_changed_right)
  alaw : Addr
  dlaw : FuncData
  flaw : Fun K "law" "law" s_law alaw dlaw
  nlaw : Binds K dlaw ["script"] []
  glaw : mg "law" = some (.ref alaw)
end K05
/-! Data at addresses, its text, its order. -/
namespace Kx
open PySem PySem.Spec PyProof.Rows L2
/-- a key as data -/
def keyD : Key → PyData
  | .inl i => .int i
  | .inr x => .str x
/-- the pairs of a dict as data; the values are flat -/
inductive KvD : List (Key × V) → List (PyData × PyData) → Prop
  | nil : KvD [] []
  | int {k : Key} {i : Int} {r : List (Key × V)} {ds : List (PyData × PyData)} : KvD r ds → KvD ((k, .int i) :: r) ((keyD k, .int i) :: ds)
  | str {k : Key} {x : Str} {r : List (Key × V)} {ds : List (PyData × PyData)} : KvD r ds → KvD ((k, .str x) :: r) ((keyD k, .str x) :: ds)
mutual
/-- v stands for the data d: as Dp, and dicts -/
inductive Dx (K : PySem.W.Frag) (H : Hp) : V → PyData → Prop
  | non : Dx K H .non .none
  | bl (b : Bool) : Dx K H (.bl b) (.bool b)
  | int (i : Int) : Dx K H (.int i) (.int i)
  | str (x : Str) : Dx K H (.str x) (.str x)
  | lst {a : Addr} {xs : List V} {ds : List PyData} : H a = some (.lst xs) → DxAll K H xs ds → Dx K H (.ref a) (.list ds)
  | tup {a : Addr} {xs : List V} {ds : List PyData} : H a = some (.tup xs) → DxAll K H xs ds → Dx K H (.ref a) (.tuple ds)
  | dic {a : Addr} {kvs : List (Key × V)} {ds : List (PyData × PyData)} : H a = some (.dK kvs) → KvD kvs ds → Dx K H (.ref a) (.dict ds)
inductive DxAll (K : PySem.W.Frag) (H : Hp) : List V → List PyData → Prop
  | nil : DxAll K H [] []
  | cons {v : V} {vs : List V} {d : PyData} {ds : List PyData} : Dx K H v d → DxAll K H vs ds → DxAll K H (v :: vs) (d :: ds)
end
section
variable {K : PySem.W.Frag} {H H' : Hp}
theorem Same.tup {a : Addr} {xs : List V} (e : Same H H') (h : SqT K H a xs) : SqT K H' a xs := by
  rcases h with (h | ⟨o, h⟩) | h
  · exact .inl (.inl (e _ _ h))
  · exact .inl (.inr ⟨o, e _ _ h⟩)
  · exact .inr h
mutual
theorem Dx.up (e : Same H H') : ∀ {d : PyData} {v : V}, Dx K H v d → Dx K H' v d
  | .none, _, h => by cases h; exact .non
  | .bool b, _, h => by cases h; exact .bl b
  | .int i, _, h => by cases h; exact .int i
  | .str x, _, h => by cases h; exact .str x
  | .list ds, _, h => by cases h with | lst a b => exact .lst (e _ _ a) (DxAll.up e b)
  | .tuple ds, _, h => by cases h with | tup a b => exact .tup (e _ _ a) (DxAll.up e b)
  | .dict ds, _, h => by cases h with | dic a b => exact .dic (e _ _ a) b
theorem DxAll.up (e : Same H H') : ∀ {ds : List PyData} {vs : List V}, DxAll K H vs ds → DxAll K H' vs ds
  | [], _, h => by cases h; exact .nil
  | d :: ds, _, h => by cases h with | cons a b => exact .cons (Dx.up e a) (DxAll.up e b)
end
mutual
/-- data without dicts -/
theorem Dx.dp : ∀ {d : PyData} {v : V}, d.hasDict = false → Dx K H v d → Dp K H v d
  | .none, _, _, h => by cases h; exact .non
  | .bool b, _, _, h => by cases h; exact .bl b
  | .int i, _, _, h => by cases h; exact .int i
  | .str x, _, _, h => by cases h; exact .str x
  | .list ds, _, z, h => by cases h with | lst a b => exact .lst (.inl (.inl a)) (DxAll.dp (by simpa [PyData.hasDict] using z) b)
  | .tuple ds, _, z, h => by cases h with | tup a b => exact .tup (.inl (.inl a)) (DxAll.dp (by simpa [PyData.hasDict] using z) b)
  | .dict ds, _, z, h => by simp [PyData.hasDict] at z
theorem DxAll.dp : ∀ {ds : List PyData} {vs : List V}, PyData.hasDictAll ds = false → DxAll K H vs ds → DpAll K H vs ds
  | [], _, _, h => by cases h; exact .nil
  | d :: ds, _, z, h => by
    cases h with
    | cons a b =>
      have z' : d.hasDict = false ∧ PyData.hasDictAll ds = false := by simpa [PyData.hasDictAll] using z
      exact .cons (Dx.dp z'.1 a) (DxAll.dp z'.2 b)
end
theorem DxAll.length : ∀ {vs : List V} {ds : List PyData}, DxAll K H vs ds → vs.length = ds.length
  | _, _, .nil => rfl
  | _, _, .cons _ t => by rw [List.length_cons, List.length_cons, DxAll.length t]
theorem DxAll.append : ∀ {vs us : List V} {ds es : List PyData}, DxAll K H vs ds → DxAll K H us es → DxAll K H (vs ++ us) (ds ++ es)
  | _, _, _, _, .nil, h => h
  | _, _, _, _, .cons a t, h => .cons a (DxAll.append t h)
theorem DxAll.get : ∀ {vs : List V} {ds : List PyData} {i : Nat} {d : PyData}, DxAll K H vs ds → ds[i]? = some d → ∃ v, vs[i]? = some v ∧ Dx K H v d
  | _, _, _, _, .nil, h => by simp at h
  | _, _, 0, _, .cons a _, h => by
    simp at h
    subst h
    exact ⟨_, rfl, a⟩
  | _, _, i + 1, _, .cons _ t, h => by
    obtain ⟨v, e, x⟩ := DxAll.get (i := i) t (by simpa using h)
    exact ⟨v, by simpa using e, x⟩
theorem DxAll.take : ∀ {vs : List V} {ds : List PyData} (i : Nat), DxAll K H vs ds → DxAll K H (vs.take i) (ds.take i)
  | _, _, 0, _ => .nil
  | _, _, _ + 1, .nil => .nil
  | _, _, i + 1, .cons a t => .cons a (DxAll.take i t)
theorem DxAll.drop : ∀ {vs : List V} {ds : List PyData} (i : Nat), DxAll K H vs ds → DxAll K H (vs.drop i) (ds.drop i)
  | _, _, 0, h => h
  | _, _, _ + 1, .nil => .nil
  | _, _, i + 1, .cons _ t => DxAll.drop i t
end
/-- the class of data -/
def tyD : PyData → String
  | .none => "NoneType"
  | .bool _ => "bool"
  | .int _ => "int"
  | .str _ => "str"
  | .list _ => "list"
  | .tuple _ => "tuple"
  | .dict _ => "dict"
theorem Dx.ty {K : PySem.W.Frag} {H : Hp} {d : PyData} {v : V} (h : Dx K H v d) : TyX K H v (.type (tyD d)) := by
  cases h with
  | non => exact .base .non
  | bl b => exact .base (.bl b)
  | int i => exact .base (.int i)
  | str x => exact .base (.str x)
  | lst a _ => exact .base (.lst a)
  | tup a _ => exact .base (.tup a)
  | dic a _ => exact .base (.dK a)
mutual
/-- no list within -/
def noL : PyData → Bool
  | .list _ => false
  | .tuple ds => noLs ds
  | _ => true
def noLs : List PyData → Bool
  | [] => true
  | d :: ds => noL d && noLs ds
end
section
variable {X : Cx} {pins : List (Addr × Obj)} {σ : L2.St} {H : Hp} {s : Shared}
theorem kv_reads {P : Program} {w : World} {h : Heap} : ∀ {kvs : List (Key × V)} {ds : List (PyData × PyData)} {vs : List (Key × Value)} {es : List DictEntry}, KvD kvs ds → KV kvs vs → Pairs (mixKind P w) es vs →
    ReadsAll h (es.map (·.key)) (ds.map (·.1)) [] ∧ ReadsAll h (es.map (·.val)) (ds.map (·.2)) []
  | _, _, _, _, .nil, r, p => by
    cases r
    cases p
    exact ⟨.nil, .nil⟩
  | _, _, _, _, .int (k := k) (i := i) t, r, p => by
    cases r with
    | cons r0 rt =>
      cases p with
      | cons p1 p2 pt =>
        obtain ⟨a, b⟩ := kv_reads (h := h) t rt pt
        obtain ⟨r1, tk, r2⟩ := r0
        refine ⟨ReadsAll.cons (as := []) (bs := []) ?_ a, ReadsAll.cons (as := []) (bs := []) ?_ b⟩
        · rw [← r1] at p1
          rcases keyIs_shape p1 with ⟨j, u, rfl, ee⟩ | ⟨x, u, rfl, ee⟩
          · dsimp only; rw [ee]; exact Reads.int j u
          · dsimp only; rw [ee]; exact Reads.str x u
        · dsimp only
          rw [p2, r2]
          exact Reads.int i tk
  | _, _, _, _, .str (k := k) (x := i) t, r, p => by
    cases r with
    | cons r0 rt =>
      cases p with
      | cons p1 p2 pt =>
        obtain ⟨a, b⟩ := kv_reads (h := h) t rt pt
        obtain ⟨r1, tk, r2⟩ := r0
        refine ⟨ReadsAll.cons (as := []) (bs := []) ?_ a, ReadsAll.cons (as := []) (bs := []) ?_ b⟩
        · rw [← r1] at p1
          rcases keyIs_shape p1 with ⟨j, u, rfl, ee⟩ | ⟨x, u, rfl, ee⟩
          · dsimp only; rw [ee]; exact Reads.int j u
          · dsimp only; rw [ee]; exact Reads.str x u
        · dsimp only
          rw [p2, r2]
          exact Reads.str i tk
mutual
theorem Dx.reads (I : Inv X pins σ H s) : ∀ (d : PyData) (v : V) (u : Value), Dx X.K H v d → RelV v u → ∃ as, Reads s.heap u d as ∧ (noL d = true → sysModules ∉ as)
  | .none, _, _, h, r => by
    cases h
    cases r
    exact ⟨_, Reads.none, fun _ => by simp⟩
  | .bool b, _, _, h, r => by
    cases h
    cases r
    exact ⟨_, Reads.bool b, fun _ => by simp⟩
  | .int i, _, _, h, r => by
    cases h
    obtain ⟨t, rfl⟩ := r
    exact ⟨_, Reads.int i t, fun _ => by simp⟩
  | .str x, _, _, h, r => by
    cases h
    obtain ⟨t, rfl⟩ := r
    exact ⟨_, Reads.str x t, fun _ => by simp⟩
  | .list ds, _, _, h, r => by
    cases h with
    | lst hs ha =>
      cases r
      obtain ⟨its, rv, ⟨o, n, ho, hc, _, hd⟩, _⟩ := I.list (SqL.of hs)
      obtain ⟨as, hr, _⟩ := DxAll.reads I ds _ its ha rv
      exact ⟨_, Reads.list ho hc hd hr, fun z => by simp [noL] at z⟩
  | .tuple ds, _, _, h, r => by
    cases h with
    | tup hs ha =>
      cases r
      obtain ⟨its, rv, ⟨o, ho, hc, n, hd⟩, _⟩ := I.tuple (SqT.of hs)
      obtain ⟨as, hr, z⟩ := DxAll.reads I ds _ its ha rv
      exact ⟨_, Reads.tuple ho hc hd hr, fun q => z (by simpa [noL] using q)⟩
  | .dict ds, _, _, h, r => by
    cases h with
    | dic hs ha =>
      cases r
      obtain ⟨_, ns, vs, rv, o, es, ep, h1, h2, h3, h4, h5, h6⟩ := I.hok _ _ hs
      obtain ⟨q1, q2⟩ := kv_reads (h := s.heap) ha rv h5
      refine ⟨_, Reads.dict h1 h2.1 h3 q1 q2, fun _ => ?_⟩
      have ne : ¬ _ = sysModules := beq_eq_false_iff_ne.mp ns
      simp only [List.append_nil, List.mem_singleton]
      exact fun e => ne e.symm
theorem DxAll.reads (I : Inv X pins σ H s) : ∀ (ds : List PyData) (vs : List V) (us : List Value), DxAll X.K H vs ds → Vals vs us → ∃ as, ReadsAll s.heap us ds as ∧ (noLs ds = true → sysModules ∉ as)
  | [], _, _, h, r => by
    cases h
    cases r
    exact ⟨_, ReadsAll.nil, fun _ => by simp⟩
  | d :: ds, _, _, h, r => by
    cases h with
    | cons h1 h2 =>
      cases r with
      | cons r1 r2 =>
        obtain ⟨as, q1, z1⟩ := Dx.reads I d _ _ h1 r1
        obtain ⟨bs, q2, z2⟩ := DxAll.reads I ds _ _ h2 r2
        refine ⟨_, ReadsAll.cons q1 q2, fun z => ?_⟩
        have z' : noL d = true ∧ noLs ds = true := by simpa [noLs] using z
        simp only [List.mem_append, not_or]
        exact ⟨z1 z'.1, z2 z'.2⟩
end
end
section
variable {X : Cx}
/-- repr(x) of data, where nothing around shows itself -/
def rRepr (K : PySem.W.Frag) : List V → Hp → VK → Prop := fun xs H Q => ∃ x d, xs = [x] ∧ Dx K H x d ∧ d.showable = true ∧ (d.hasDict = true → noL d = true) ∧ d.depth ≤ 60 ∧ d.shown.length + 64 ≤ sizeLine ∧ Q (.str d.shown) H
theorem cr_repr (cm : Calm X.A) (hu : X.A.units + 64 < cLine) : CallR X (.builtin "repr") (rRepr X.K) := by
  intro pins s σ H xs us Q I rv h
  obtain ⟨x, d, rfl, hx, sh, hd, dp, sz, q⟩ := h
  obtain ⟨u, rfl, ru⟩ := rv.one
  obtain ⟨as, rd, ns⟩ := Dx.reads I d x u hx ru
  cases rd with
  | none => exact PySem.P.repr_of_none ⟨.str _, H, I.tok _, ⟨_, rfl⟩, q⟩
  | bool b => exact PySem.P.repr_of_bool ⟨.str _, H, I.tok _, ⟨_, rfl⟩, by simpa [PyData.shown] using q⟩
  | int i t => exact PySem.P.repr_of_int (by simpa [PyData.showable] using sh) ⟨.str _, H, I.tok _, ⟨_, rfl⟩, q⟩
  | str z t => exact PySem.P.repr_of_str ⟨.str _, H, I.tok _, ⟨_, rfl⟩, q⟩ (Nat.le_trans (Nat.le_add_right _ 64) (by simpa [PyData.shown] using sz))
  | list h1 h2 h3 h4 =>
    exact repr_of_reads' (.list h1 h2 h3 h4) sh (fun z => ns (hd z)) cm (by omega) (fun _ _ e => e) (fun h' u tk k => ⟨.str _, H, I.kept k, ⟨_, rfl⟩, q⟩) (by omega)
  | tuple h1 h2 h3 h4 =>
    exact repr_of_reads' (.tuple h1 h2 h3 h4) sh (fun z => ns (hd z)) cm (by omega) (fun _ _ e => e) (fun h' u tk k => ⟨.str _, H, I.kept k, ⟨_, rfl⟩, q⟩) (by omega)
  | dict h1 h2 h3 h4 h5 =>
    exact repr_of_reads' (.dict h1 h2 h3 h4 h5) sh (fun z => ns (hd z)) cm (by omega) (fun _ _ e => e) (fun h' u tk k => ⟨.str _, H, I.kept k, ⟨_, rfl⟩, q⟩) (by omega)
/-- sorted(xs), by the data of the items -/
abbrev Item := V × PyData
def rSortD (K : PySem.W.Frag) : List V → Hp → VK → Prop := fun xs H Q => ∃ (a : Addr) (zs : List Item), xs = [.ref a] ∧ SqL K H a (zs.map Prod.fst) ∧ (∀ p, p ∈ zs → Dp K H p.1 p.2) ∧ PySem.W.AllAlike (zs.map Prod.snd) ∧ PySem.W.Sortable (zs.map Prod.snd) ∧
  zs.length ≤ sizeLine ∧ (∀ p, p ∈ zs → p.2.depth ≤ 60) ∧ ∀ p, H p = none → Q (.ref p) (upd H p (.lst ((zs.mergeSort (PySem.W.dataLe false Prod.snd)).map Prod.fst)))
theorem cr_sortedD (hu : X.A.units + 64 < cLine) : CallR X (.builtin "sorted") (rSortD X.K) := by
  intro pins s σ H xs us Q I rv h
  obtain ⟨a, zs, rfl, hl, hz, al, so, sz, dp, q⟩ := h
  obtain ⟨u, rfl, ru⟩ := rv.one
  cases ru
  obtain ⟨its, r, pl, nl⟩ := I.list hl
  have each : ∀ (zs : List Item) (its : List Value), Vals (zs.map Prod.fst) its → (∀ p, p ∈ zs → Dp X.K H p.1 p.2) → PySem.W.EachIs (fun u (p : Item) => RelV p.1 u ∧ ∃ as, Reads s.heap u p.2 as) its zs := by
    intro zs
    induction zs with
    | nil =>
      intro its r _
      cases r
      exact .nil
    | cons p zs ih =>
      intro its r hz
      cases r with
      | cons r1 rt => exact .cons ⟨r1, Dp.reads I _ _ _ (hz p List.mem_cons_self) r1⟩ (ih _ rt fun q hq => hz q (List.mem_cons_of_mem _ hq))
  have e := each zs its r hz
  have back : ∀ {out : List Value} {ys : List Item}, PySem.W.EachIs (fun u (p : Item) => RelV p.1 u ∧ ∃ as, Reads s.heap u p.2 as) out ys → Vals (ys.map Prod.fst) out := by
    intro out ys h
    induction h with
    | nil => exact .nil
    | cons h _ ih => exact .cons h.1 ih
  refine PySem.W.sorted_data pl.isList e (e.mono fun _ _ h => h.2) al so sz (fun b hb => by have := dp b hb; omega) ?_
  intro out ho eo
  obtain ⟨ep, he⟩ := PyProof.Rows.sortedAll_at s.heap its out.toArray
  have rr := back eo
  have ln : ((zs.mergeSort (PySem.W.dataLe false Prod.snd)).map Prod.fst).length ≤ sizeLine := by
    rw [List.length_map, List.length_mergeSort]
    exact sz
  exact ⟨.ref _, upd H (s.heap.objs.size + 1) (.lst ((zs.mergeSort (PySem.W.dataLe false Prod.snd)).map Prod.fst)), I.laid (t' := s.toks) (fun _ _ => PyProof.Rows.sortedAll_old) (Nat.le_succ _) ⟨ln, out, ep, rr, he⟩, rfl, q _ (I.hok.fresh (Nat.le_succ _))⟩
end
end Kx
/-! The dice. -/
namespace K05
open PySem PySem.Spec PyProof.Rows L2 Kx
/-- all but a stands -/
def But (a : Addr) (H H' : Hp) : Prop := ∀ b o, H b = some o → b ≠ a → H' b = some o
theorem But.refl (a : Addr) (H : Hp) : But a H H := fun _ _ h _ => h
theorem But.trans {a : Addr} {H H1 H2 : Hp} (x : But a H H1) (y : But a H1 H2) : But a H H2 := fun b o h n => y b o (x b o h n) n
theorem But.of {a : Addr} {H H' : Hp} (x : Same H H') : But a H H' := fun b o h _ => x b o h
theorem But.upd {a : Addr} {H : Hp} {o : HO} : But a H (upd H a o) := fun b u h n => by rw [upd_ne n]; exact h
theorem same_new {H : Hp} {p : Addr} {o : HO} (h : H p = none) : Same H (upd H p o) := fun b x e => by
  rw [upd_ne (ne_of_none e h)]
  exact e
/-- dice at a, rolled n times at most -/
def Dice (H : Hp) (a : Addr) (n : Nat) : Prop := ∃ i0 i1 i2 : Int, H a = some (.lst [.int i0, .int i1, .int i2]) ∧ 0 ≤ i0 ∧ i0 < 2 ^ 2200 ∧ 0 ≤ i1 ∧ i1 < 2 ^ 61 ∧ 0 ≤ i2 ∧ i2 ≤ n
theorem Dice.up {H H' : Hp} {a : Addr} {n : Nat} (d : Dice H a n) (e : Same H H') : Dice H' a n := by
  obtain ⟨i0, i1, i2, h, r⟩ := d
  exact ⟨i0, i1, i2, e _ _ h, r⟩
theorem Dice.le {H : Hp} {a : Addr} {n m : Nat} (d : Dice H a n) (e : n ≤ m) : Dice H a m := by
  obtain ⟨i0, i1, i2, h, a1, a2, a3, a4, a5, a6⟩ := d
  exact ⟨i0, i1, i2, h, a1, a2, a3, a4, a5, by omega⟩
section
variable {P : Program} {w : World} {K : PySem.W.Frag} {mg : Str → Option Value} {base : Heap}
def spDice (K : PySem.W.Frag) : Sp := fun vs H Q _ => ∃ (a : Addr) (ns : List Int) (k : Nat), vs = [.ref a, .int k] ∧ SqL K H a (ns.map V.int) ∧ k < 1000 ∧ ∀ H' p, Same H H' → H p = none → Dice H' p 0 → Q (.ref p) H'
theorem ok_dice (T : Tx K mg) : FnOk P w K mg base CX0 1 T.a_law_dice T.d_law_dice ["script", "spot"] (spDice K) := by
  have nd := sc__law_dice.nd
  refine T.f_law_dice.ok sc__law_dice (fun vs H Q E h => ?_) (fun cdv A outer s H vs Q E hr h => ?_)
  · obtain ⟨a, ns, k, rfl, _⟩ := h
    rfl
  · obtain ⟨a, ns, k, rfl, hS, hk, q⟩ := h
    refine ⟨_, (C8.pss_cut (ps_set (i := 2) nd rfl (.inl rfl) (pe_ifExp (pt_cmpR op_lt (pv 1) (pe_callB call_len_seq (by rfl) T.b_len (by decide +kernel) (pa_cons (pv 0) pa_nil)) (nomark _)) (pe_ix ix_list (pv 0) (pv 1) (fun _ _ => rfl)) (pe_op op_add (pe_op op_mul pe_int (pv 1)) pe_int)))
      (pss_cons (ps_set (i := 3) nd rfl (.inl rfl) (pe_op op_mod (pe_callTy call_int1 (by rfl) T.b_int (by decide +kernel) (pa_cons (pe_callB call_abs (by rfl) T.b_abs (by decide +kernel) (pa_cons (pv 2) pa_nil)) pa_nil)) (pe_op op_powX (pe_op op_pow pe_int pe_int) pe_int)))
      (pss_cons (ps_set (i := 4) nd rfl (.inl rfl) (pe_op op_mul (pe_op op_mod (pe_callTy call_int1 (by rfl) T.b_int (by decide +kernel) (pa_cons (pv 3) pa_nil)) pe_int) pe_int))
      (pss_cons (ps_set (i := 4) nd rfl (.inl rfl) (pe_op op_add (pe_op op_add (pe_op op_add (pv 4) (pe_op op_mul pe_int (pv 1))) (pe_op op_mul pe_int (pe_callTy call_int1 (by rfl) T.b_int (by decide +kernel) (pa_cons (pe_cmpR op_lt (pv 2) pe_int (nomark _)) pa_nil)))) pe_int))
      (pss_one (ps_ret (pe_lst (pa_cons (pe_callB (call_max2 rfl) (by rfl) T.b_max (by decide +kernel) (pa_cons pe_int (pa_cons (pe_op op_add (pe_op op_sub (pv 3) (pe_op op_pow pe_int pe_int)) pe_int) pa_nil))) (pa_cons (pe_op op_mod (pe_callTy call_int1 (by rfl) T.b_int (by decide +kernel) (pa_cons (pv 4) pa_nil)) pe_int) (pa_cons pe_int pa_nil)))))))))), ?_⟩
    -- cell: one or the other int
    refine ⟨fun σ' H' => H' = H ∧ ∃ c : Int, σ' = [some (.ref a), some (.int k), some (.int c), none, none], ?_, ?_⟩
    · refine ⟨_, rfl, .ref a, rfl, a, ns.map V.int, rfl, .inl hS, k, _, rfl, rfl, _, rfl, ite2 (fun hc => ?_) (fun hc => ?_)⟩
      · have lt : k < ns.length := by
          have z := of_decide_eq_true hc
          rw [List.length_map] at z
          omega
        refine ⟨.ref a, rfl, _, rfl, a, ns.map V.int, (k : Int), .int ns[k], rfl, rfl, hS, atI_nat (by rw [List.getElem?_map, List.getElem?_eq_getElem lt]; rfl), rfl, ns[k], rfl⟩
      · exact ⟨_, rfl, 37, k, rfl, rfl, .inl ⟨by decide, by decide⟩, _, _, rfl, rfl, rfl, _, rfl⟩
    rintro σ' H' ⟨rfl, c, rfl⟩
    -- great
    refine ⟨_, rfl, c, rfl, .inl ⟨_, rfl, 10, 59, rfl, rfl, ⟨by decide, by decide, by decide⟩, _, 11, rfl, rfl, ⟨by decide, by decide +kernel⟩, _, _, rfl, rfl, (show (0 : Int) < ((10 : Int) ^ (59 : Int).toNat) ^ (11 : Int).toNat by decide +kernel), ?_⟩⟩
    dsimp only
    have g0 := Int.emod_nonneg (if c < 0 then -c else c) (show ((10 : Int) ^ (59 : Int).toNat) ^ (11 : Int).toNat ≠ 0 by decide +kernel)
    have g1 := Int.emod_lt_of_pos (if c < 0 then -c else c) (show (0 : Int) < ((10 : Int) ^ (59 : Int).toNat) ^ (11 : Int).toNat by decide +kernel)
    have g2 : ((10 : Int) ^ (59 : Int).toNat) ^ (11 : Int).toNat < 2 ^ 2200 := by decide +kernel
    have g3 := Int.lt_trans g1 g2
    clear g1 g2
    generalize (if c < 0 then -c else c) % ((10 : Int) ^ (59 : Int).toNat) ^ (11 : Int).toNat = g at g0 g3 ⊢
    -- mixed
    refine ⟨_, rfl, .inl ⟨g, rfl, g, 2305843009213693951, rfl, rfl, (show (0 : Int) < 2305843009213693951 by decide), _, 7046029254386353, rfl, rfl, .inr ⟨by decide, by decide⟩, ?_⟩⟩
    refine ⟨_, rfl, _, rfl, 131, k, rfl, rfl, .inl ⟨by decide, by decide⟩, _, _, rfl, rfl, _, rfl, c, 0, rfl, rfl, .inr ⟨_, rfl, 17, _, rfl, rfl, .inl ⟨by decide, by decide⟩, _, _, rfl, rfl, _, 3, rfl, rfl, ?_⟩⟩
    dsimp only
    generalize g % 2305843009213693951 * 7046029254386353 + 131 * (k : Int) + 17 * (if decide (c < 0) = true then 1 else 0) + 3 = m
    -- the list
    refine ⟨_, rfl, 10, 18, rfl, rfl, ⟨by decide, by decide, by decide⟩, g, _, rfl, rfl, _, 1, rfl, rfl, 0, _, rfl, _, rfl, .inl ⟨m, rfl, m, 2305843009213693921, rfl, rfl, (show (0 : Int) < 2305843009213693921 by decide), by show 3 ≤ sizeLine; decide, fun p np => ?_⟩⟩
    refine q _ p (same_new np) np ⟨_, _, _, upd_same, ?_, ?_, Int.emod_nonneg _ (by decide), Int.lt_trans (Int.emod_lt_of_pos _ (by decide)) (by decide), by decide, by decide⟩
    · split <;> omega
    · split
      · have : (0 : Int) ≤ 10 ^ (18 : Int).toNat := by decide
        have z : (1 : Int) ≤ 10 ^ (18 : Int).toNat := by decide
        omega
      · decide
end
end K05
/-! The dice rolled; an item picked; items mixed. -/
namespace K05
open PySem PySem.Spec PyProof.Rows L2 Kx
section
variable {P : Program} {w : World} {K : PySem.W.Frag} {mg : Str → Option Value} {base : Heap}
def cap : Nat := 1000000
def spRoll : Sp := fun vs H Q _ => ∃ (a : Addr) (n : Nat) (m : Int), vs = [.ref a, .int m] ∧ Dice H a n ∧ n < cap ∧ 0 < m ∧ m < 1000000 ∧ ∀ (r : Int) H', But a H H' → Dice H' a (n + 1) → 0 ≤ r → r < m → Q (.int r) H'
theorem ok_roll (T : Tx K mg) : FnOk P w K mg base CX0 1 T.a_law_roll T.d_law_roll ["dice", "many"] spRoll := by
  have nd := sc__law_roll.nd
  refine T.f_law_roll.ok sc__law_roll (fun vs H Q E h => ?_) (fun cdv A outer s H vs Q E hr h => ?_)
  · obtain ⟨a, n, m, rfl, _⟩ := h
    rfl
  · obtain ⟨a, n, m, rfl, ⟨i0, i1, i2, hd, h0, h1, h2, h3, h4, h5⟩, hn, m0, m1, q⟩ := h
    have sl : SqL K H a [.int i0, .int i1, .int i2] := .inl (.inl hd)
    refine ⟨_, (pss_cons (ps_if (pt_cmpR op_gt (pe_ix ix_list (pv 0) pe_int (fun _ _ => rfl)) pe_int (nomark _)) (pss_cons (ps_set (i := 2) nd rfl (.inl rfl) (pe_op op_mod (pe_callTy call_int1 (by rfl) T.b_int (by decide +kernel) (pa_cons (pe_ix ix_list (pv 0) pe_int (fun _ _ => rfl)) pa_nil)) (pv 1)))
      (pss_cons (ps_asg (pe_op op_fdivW (pe_ix ix_list (pv 0) pe_int (fun _ _ => rfl)) (pv 1)) (pg_sub (pv 0) pe_int set_list))
      (pss_one (ps_ret (pv 2))))) pss_nil)
      (pss_cons (ps_asg (pe_op op_add (pe_ix ix_list (pv 0) pe_int (fun _ _ => rfl)) pe_int) (pg_sub (pv 0) pe_int set_list))
      (pss_cons (ps_set (i := 3) nd rfl (.inl rfl) (pe_op op_mod (pe_callTy call_int1 (by rfl) T.b_int (by decide +kernel) (pa_cons (pe_op op_add (pe_ix ix_list (pv 0) pe_int (fun _ _ => rfl)) (pe_op op_mul pe_int (pe_ix ix_list (pv 0) pe_int (fun _ _ => rfl)))) pa_nil)) pe_int))
      (pss_cons (ps_set (i := 4) nd rfl (.inl rfl) (pe_op op_add (pe_op op_mul (pe_op op_mod (pe_callTy call_int1 (by rfl) T.b_int (by decide +kernel) (pa_cons (pe_op op_mul (pv 3) (pv 3)) pa_nil)) pe_int) (pv 3)) (pe_op op_mul pe_int (pe_ix ix_list (pv 0) pe_int (fun _ _ => rfl)))))
      (pss_one (ps_ret (pe_op op_mod (pe_callTy call_int1 (by rfl) T.b_int (by decide +kernel) (pa_cons (pe_op op_fdiv (pe_op op_mod (pe_callTy call_int1 (by rfl) T.b_int (by decide +kernel) (pa_cons (pe_op op_add (pe_op op_mulW (pv 4) (pv 4)) (pe_ix ix_list (pv 0) pe_int (fun _ _ => rfl))) pa_nil)) pe_int) pe_int) pa_nil)) (pv 1)))))))), ?_⟩
    refine ⟨_, rfl, a, _, _, _, rfl, rfl, sl, atI_nat (j := 0) rfl, i0, 0, rfl, rfl, _, rfl, ite2 (fun hc => ?_) (fun hc => ?_)⟩
    · -- the great number
      refine ⟨_, rfl, a, _, _, _, rfl, rfl, sl, atI_nat (j := 0) rfl, .inl ⟨i0, rfl, _, rfl, i0, m, rfl, rfl, m0, ?_⟩⟩
      refine ⟨_, rfl, a, _, _, _, rfl, rfl, sl, atI_nat (j := 0) rfl, _, rfl, i0, m, rfl, rfl, wide_div m0 (b := 30) (by omega) (by decide) (by decide), _, rfl, a, _, _, 0, rfl, rfl, hd, rfl, ?_⟩
      refine ⟨_, rfl, q _ _ But.upd ⟨i0 / m, i1, i2, upd_same, Int.ediv_nonneg h0 (by omega), Int.lt_of_le_of_lt (Int.ediv_le_self _ h0) h1, h2, h3, h4, by omega⟩ (Int.emod_nonneg _ (by omega)) (Int.emod_lt_of_pos _ m0)⟩
    · -- the small one
      refine ⟨_, rfl, a, _, _, _, rfl, rfl, sl, atI_nat (j := 2) rfl, i2, 1, rfl, rfl, _, rfl, a, _, _, 2, rfl, rfl, hd, rfl, ?_⟩
      have hd2 : (upd H a (.lst ([V.int i0, V.int i1, V.int i2].set 2 (V.int (i2 + 1))))) a = some (.lst [V.int i0, V.int i1, V.int (i2 + 1)]) := upd_same
      have sl2 : SqL K (upd H a (.lst ([V.int i0, V.int i1, V.int i2].set 2 (V.int (i2 + 1))))) a [.int i0, .int i1, .int (i2 + 1)] := .inl (.inl hd2)
      refine ⟨_, rfl, a, _, _, _, rfl, rfl, sl2, atI_nat (j := 1) rfl, _, rfl, a, _, _, _, rfl, rfl, sl2, atI_nat (j := 2) rfl, 1220703125, i2 + 1, rfl, rfl, .inl ⟨by decide, by decide⟩, i1, _, rfl, rfl, .inl ⟨_, rfl, _, 36028797018963913, rfl, rfl, (show (0 : Int) < 36028797018963913 by decide), ?_⟩⟩
      dsimp only
      have o0 := Int.emod_nonneg (i1 + 1220703125 * (i2 + 1)) (show (36028797018963913 : Int) ≠ 0 by decide)
      have o1 := Int.emod_lt_of_pos (i1 + 1220703125 * (i2 + 1)) (show (0 : Int) < 36028797018963913 by decide)
      generalize (i1 + 1220703125 * (i2 + 1)) % 36028797018963913 = one at o0 o1 ⊢
      refine ⟨_, rfl, _, rfl, one, one, rfl, rfl, .inl ⟨by omega, by omega⟩, .inl ⟨_, rfl, _, 18014398509481951, rfl, rfl, (show (0 : Int) < 18014398509481951 by decide), _, rfl, _, one, rfl, rfl, .inr ⟨by omega, by omega⟩, _, rfl, a, _, _, _, rfl, rfl, sl2, atI_nat (j := 2) rfl, 271828183, i2 + 1, rfl, rfl, .inl ⟨by decide, by decide⟩, _, _, rfl, rfl, ?_⟩⟩
      dsimp only
      have x0 := Int.emod_nonneg (one * one) (show (18014398509481951 : Int) ≠ 0 by decide)
      have x1 := Int.emod_lt_of_pos (one * one) (show (0 : Int) < 18014398509481951 by decide)
      generalize one * one % 18014398509481951 = x at x0 x1 ⊢
      have y0 : 0 ≤ x * one := Int.mul_nonneg x0 o0
      have y1 : x * one ≤ 18014398509481951 * 36028797018963913 := Int.mul_le_mul (by omega) (by omega) o0 (by decide)
      generalize x * one = y at y0 y1 ⊢
      have hn' : (i2 + 1 : Int) ≤ 1000001 := by
        unfold cap at hn
        omega
      have t1 : (y + 271828183 * (i2 + 1)).natAbs < 2 ^ 120 := by omega
      generalize y + 271828183 * (i2 + 1) = two at t1 ⊢
      refine ⟨_, rfl, _, rfl, two, two, rfl, rfl, wide_mul t1 t1 (by decide) (by decide) (by decide), _, rfl, a, _, _, _, rfl, rfl, sl2, atI_nat (j := 1) rfl, _, i1, rfl, rfl, .inl ⟨_, rfl, _, 1125899906842597, rfl, rfl, (show (0 : Int) < 1125899906842597 by decide), _, 4096, rfl, rfl, ⟨by decide, by decide⟩, .inl ⟨_, rfl, _, rfl, _, m, rfl, rfl, m0, ?_⟩⟩⟩
      exact q _ _ But.upd ⟨i0, i1, i2 + 1, hd2, h0, h1, h2, h3, by omega, by omega⟩ (Int.emod_nonneg _ (by omega)) (Int.emod_lt_of_pos _ m0)
/-- an item of a list at b -/
def spPick (K : PySem.W.Frag) : Sp := fun vs H Q _ => ∃ (a b : Addr) (n : Nat) (xs : List V), vs = [.ref a, .ref b] ∧ Dice H a n ∧ n < cap ∧ SqL K H b xs ∧ b ≠ a ∧ 0 < xs.length ∧ xs.length < 1000000 ∧ ∀ (i : Nat) (v : V) H', But a H H' → Dice H' a (n + 1) → xs[i]? = some v → Q v H'
theorem But.sq {a b : Addr} {H H' : Hp} {xs : List V} (x : But a H H') (h : SqL K H b xs) (n : b ≠ a) : SqL K H' b xs := by
  rcases h with (h | ⟨o, h⟩) | h
  · exact .inl (.inl (x _ _ h n))
  · exact .inl (.inr ⟨o, x _ _ h n⟩)
  · exact .inr h
theorem ok_pick (T : Tx K mg) : FnOk P w K mg base CX0 2 T.a_law_pick T.d_law_pick ["dice", "items"] (spPick K) := by
  have nd := sc__law_pick.nd
  have G := ok_roll (P := P) (w := w) (base := base) T
  refine T.f_law_pick.ok sc__law_pick (fun vs H Q E h => ?_) (fun cdv A outer s H vs Q E hr h => ?_)
  · obtain ⟨a, b, n, xs, rfl, _⟩ := h
    rfl
  · obtain ⟨a, b, n, xs, rfl, hd, hn, hb, ne, l0, l1, q⟩ := h
    refine ⟨_, (pss_one (ps_ret (pe_ix ix_list (pv 1) (pe_call G (hr.mono (by decide)) (by rfl) T.g_law_roll T.f_law_roll.kp T.n_law_roll .nil pass0 (pa_cons (pv 0) (pa_cons (pe_callB call_len_seq (by rfl) T.b_len (by decide +kernel) (pa_cons (pv 1) pa_nil)) pa_nil))) (fun _ _ => rfl)))), ?_⟩
    refine ⟨_, rfl, _, rfl, _, rfl, b, xs, rfl, .inl hb, a, n, _, rfl, hd, hn, by omega, by omega, fun r H' bt hd' r0 r1 => ?_⟩
    have lt : r.toNat < xs.length := by omega
    have e : xs[r.toNat]? = some xs[r.toNat] := List.getElem?_eq_getElem lt
    refine ⟨b, xs, r, _, rfl, rfl, bt.sq hb ne, ?_, q _ _ _ bt hd' e⟩
    exact at_of (by omega) e
end
end K05
/-! Compared with an empty list, an empty tuple. -/
namespace Kx
open PySem PySem.Spec PyProof.Rows L2
section
variable {X : Cx}
def rNilL (K : PySem.W.Frag) (g : Bool → Bool) : R2 := fun x y H Q => ∃ a b xs, x = .ref a ∧ y = .ref b ∧ SqL K H a xs ∧ SqL K H b [] ∧ Q (.bl (g xs.isEmpty)) H
def rNilT (K : PySem.W.Frag) (g : Bool → Bool) : R2 := fun x y H Q => ∃ a b xs, x = .ref a ∧ y = .ref b ∧ SqT K H a xs ∧ SqT K H b [] ∧ Q (.bl (g xs.isEmpty)) H
theorem op_neNil (hu : X.A.units + 64 < cLine) : OpR X (compareOp .NotEq) (rNilL X.K fun b => !b) := by
  intro pins s σ H x y v u Q I rx ry h
  obtain ⟨a, b, xs, rfl, rfl, ha, hb, q⟩ := h
  cases xs with
  | nil => exact op_neD hu pins s σ H _ _ v u Q I rx ry ⟨.list [], .list [], .lst ha .nil, .lst hb .nil, rfl, rfl, by simpa [PyData.eqv, PyData.eqvAll] using q⟩
  | cons z zs =>
    cases rx
    cases ry
    obtain ⟨i1, r1, p1, _⟩ := I.list ha
    obtain ⟨i2, r2, p2, _⟩ := I.list hb
    cases r2
    have ne : (i1.toArray.size != (#[] : Array Value).size) = true := by
      cases r1
      simp
    exact SeqAt.RcNeAt.lists_lengths p1.isList p2.isList ne (by omega) _ _ _ _ ⟨.bl _, H, I, rfl, q⟩
theorem op_eqNil (hu : X.A.units + 64 < cLine) : OpR X (compareOp .Eq) (rNilL X.K fun b => b) := by
  intro pins s σ H x y v u Q I rx ry h
  obtain ⟨a, b, xs, rfl, rfl, ha, hb, q⟩ := h
  cases xs with
  | nil => exact op_eqD hu pins s σ H _ _ v u Q I rx ry ⟨.list [], .list [], .lst ha .nil, .lst hb .nil, rfl, rfl, by simpa [PyData.eqv, PyData.eqvAll] using q⟩
  | cons z zs =>
    cases rx
    cases ry
    obtain ⟨i1, r1, p1, _⟩ := I.list ha
    obtain ⟨i2, r2, p2, _⟩ := I.list hb
    cases r2
    have ne : (i1.toArray.size != (#[] : Array Value).size) = true := by
      cases r1
      simp
    exact SeqAt.RcAt.lists_lengths p1.isList p2.isList ne (by omega) _ _ _ _ ⟨.bl _, H, I, rfl, q⟩
end
end Kx
/-! Items mixed. -/
namespace K05
open PySem PySem.Spec PyProof.Rows L2 Kx
theorem erase_perm {α : Type} : ∀ {l : List α} {k : Nat} {y : α}, l[k]? = some y → (y :: l.eraseIdx k).Perm l
  | [], _, _, h => by simp at h
  | x :: l, 0, y, h => by
    simp at h
    subst h
    exact List.Perm.refl _
  | x :: l, k + 1, y, h => by
    have ih := erase_perm (l := l) (k := k) (y := y) (by simpa using h)
    rw [List.eraseIdx_cons_succ]
    exact (List.Perm.swap _ _ _).trans (ih.cons x)
theorem Dice.same {H H' : Hp} {a : Addr} {n : Nat} (d : Dice H a n) (e : H' a = H a) : Dice H' a n := by
  obtain ⟨i0, i1, i2, h, r⟩ := d
  exact ⟨i0, i1, i2, by rw [e, h], r⟩
section
variable {P : Program} {w : World} {K : PySem.W.Frag} {mg : Str → Option Value} {base : Heap}
/-- items in another order, a new list -/
def spMixed (K : PySem.W.Frag) : Sp := fun vs H Q _ => ∃ (a b : Addr) (n : Nat) (xs : List V), vs = [.ref a, .ref b] ∧ Dice H a n ∧ n + xs.length < cap ∧ SqL K H b xs ∧ b ≠ a ∧ xs.length < 1000 ∧
  ∀ (ys : List V) (p : Addr) H', But a H H' → Dice H' a (n + xs.length) → ys.Perm xs → H p = none → p ≠ a → H' p = some (.lst ys) → Q (.ref p) H'
theorem ok_mixed (T : Tx K mg) : FnOk P w K mg base CX0 2 T.a_law_mixed T.d_law_mixed ["dice", "items"] (spMixed K) := by
  have nd := sc__law_mixed.nd
  have G := ok_roll (P := P) (w := w) (base := base) T
  refine T.f_law_mixed.ok sc__law_mixed (fun vs H Q E h => ?_) (fun cdv A outer s H vs Q E hr h => ?_)
  · obtain ⟨a, b, n, xs, rfl, _⟩ := h
    rfl
  · obtain ⟨a, b, n, xs, rfl, hd, hn, hb, ne, l1, q⟩ := h
    refine ⟨_, (pss_cons (ps_par (i := 2) (j := 3) (by rfl) nd rfl rfl (by decide) rfl rfl (pa_cons (pe_callTy call_list_of (by rfl) T.b_list (by decide +kernel) (pa_cons (pv 1) pa_nil)) (pa_cons (pe_lst pa_nil) pa_nil)) (by rfl))
      (pss_cons (ps_while PassesOwn.never (pt_cmpR (op_neNil hr.units) (pv 2) (pe_lst pa_nil) (nomark _)) (pss_one (ps_expr (pe_bm PySem.F.plainAttrs_list PySem.F.slot_list_append PySem.F.type_list_append mt_append (pv 3) (pa_cons (pe_bm PySem.F.plainAttrs_list PySem.F.slot_list_pop PySem.F.type_list_pop mt_popAt (pv 2) (pa_cons (pe_call G (hr.mono (by decide)) (by rfl) T.g_law_roll T.f_law_roll.kp T.n_law_roll .nil pass0 (pa_cons (pv 0) (pa_cons (pe_callB call_len_seq (by rfl) T.b_len (by decide +kernel) (pa_cons (pv 2) pa_nil)) pa_nil))) pa_nil)) pa_nil)))))
      (pss_one (ps_ret (pv 3))))), ?_⟩
    have na : ∀ {p : Addr}, H p = none → p ≠ a := fun h e => by
      subst e
      obtain ⟨i0, i1, i2, z, _⟩ := hd
      rw [z] at h
      cases h
    refine ⟨_, rfl, b, xs, rfl, .inl hb, fun l nl => ⟨Nat.zero_le _, fun f nf => ?_⟩⟩
    have nl' : H l = none := nl
    have nfl : f ≠ l := fun e => by
      subst e
      rw [upd_same] at nf
      cases nf
    have nf' : H f = none := by
      rw [← nf, upd_ne nfl]
    refine ⟨_, _, rfl, ?_⟩
    -- the loop: what is left at l, what is found at f
    refine ⟨fun m σ H2 => σ = [some (.ref a), some (.ref b), some (.ref l), some (.ref f)] ∧ ∃ ls fs : List V, m = ls.length ∧ H2 l = some (.lst ls) ∧ H2 f = some (.lst fs) ∧ (fs ++ ls).Perm xs ∧ But a H H2 ∧ Dice H2 a (n + fs.length),
      ⟨xs.length, rfl, xs, [], rfl, ?_, upd_same, List.Perm.refl _, ?_, ?_⟩, ?_⟩
    · rw [upd_ne nfl.symm, upd_same]
    · exact But.of ((same_new nl').trans (same_new nf))
    · exact (hd.up ((same_new nl').trans (same_new nf))).le (by omega)
    rintro m σ H2 ⟨rfl, ls, fs, rfl, el, ef, pm, bt, dd⟩
    have len := pm.length_eq
    rw [List.length_append] at len
    refine ⟨_, rfl, Nat.zero_le _, fun e ne' => ?_⟩
    have s3 : Same H2 (upd H2 e (.lst [])) := same_new ne'
    refine ⟨l, e, ls, rfl, rfl, .inl (.inl (s3 _ _ el)), .inl (.inl upd_same), _, rfl, ?_⟩
    cases ls with
    | nil =>
      -- the end
      refine iteF ⟨_, rfl, q fs f _ (bt.trans (But.of s3)) ((dd.up s3).le ?_) ?_ nf' (na nf') (s3 _ _ ef)⟩
      · simp at len
        omega
      · simpa using pm
    | cons y0 ys0 =>
      refine iteT ⟨fun σ' H' => ∃ m', m' < (y0 :: ys0).length ∧ _, fun _ _ h => h, ?_⟩
      have sl : SqL K (upd H2 e (.lst [])) l (y0 :: ys0) := .inl (.inl (s3 _ _ el))
      rw [List.length_cons] at len
      refine ⟨_, rfl, .inl ⟨rfl, fs, .inl (.inl (s3 _ _ ef))⟩, _, rfl, .inl ⟨rfl, _, sl⟩, _, rfl, _, rfl, l, _, rfl, .inl sl, a, n + fs.length, _, rfl, dd.up s3, by omega, by rw [List.length_cons]; omega, by rw [List.length_cons]; omega, fun r H4 b4 d4 r0 r1 => ?_⟩
      have nla : l ≠ a := na nl'
      have nfa : f ≠ a := na nf'
      have el4 := b4 _ _ (s3 _ _ el) nla
      have ef4 := b4 _ _ (s3 _ _ ef) nfa
      have lt : r.toNat < (y0 :: ys0).length := by omega
      have ey : (y0 :: ys0)[r.toNat]? = some (y0 :: ys0)[r.toNat] := List.getElem?_eq_getElem lt
      generalize (y0 :: ys0)[r.toNat] = y at ey
      have bound : (y0 :: ys0).length < 1000 := by
        rw [List.length_cons]
        omega
      refine ⟨l, _, r, r.toNat, y, rfl, rfl, el4, by omega, by omega, PySem.seqIndex_of r0 r1, ey, ?_⟩
      have ef5 : (upd H4 l (.lst ((y0 :: ys0).eraseIdx r.toNat))) f = some (.lst fs) := by
        rw [upd_ne nfl]
        exact ef4
      refine ⟨f, fs, y, rfl, rfl, ef5, small1000 (by omega), ?_⟩
      have lne : ((y0 :: ys0).eraseIdx r.toNat).length + 1 = (y0 :: ys0).length := by
        rw [List.length_eraseIdx_of_lt lt, Nat.sub_add_cancel (by simp)]
      refine ⟨_, by omega, rfl, (y0 :: ys0).eraseIdx r.toNat, fs ++ [y], rfl, ?_, upd_same, ?_, ?_, ?_⟩
      · rw [upd_ne nfl.symm, upd_same]
      · refine List.Perm.trans ?_ pm
        rw [List.append_assoc]
        exact (erase_perm ey).append_left fs
      · intro c o hc hne
        rw [upd_ne (ne_of_none hc nf'), upd_ne (ne_of_none hc nl')]
        exact b4 _ _ (s3 _ _ (bt c o hc hne)) hne
      · rw [List.length_append, List.length_singleton, ← Nat.add_assoc]
        exact d4.same (by rw [upd_ne nfa.symm, upd_ne nla.symm])
end
end K05
/-! Names and forms. -/
namespace K05
open PySem PySem.Spec PyProof.Rows L2 Kx
def letter (c : Nat) : Bool := decide (97 ≤ c) && decide (c ≤ 122)
def isNm (x : Str) : Bool := decide (1 ≤ x.length) && decide (x.length ≤ 8) && x.cps.all letter
theorem ascii_table : ((List.range 128).all fun c => (letter c == (Unicode.isAlpha c && !(Unicode.isUpper c || Unicode.isTitle c))) && (!letter c || Unicode.isLower c)) = true := by decide +kernel
theorem ascii_at {c : Nat} (h : c < 128) : letter c = (Unicode.isAlpha c && !(Unicode.isUpper c || Unicode.isTitle c)) ∧ (letter c = true → Unicode.isLower c = true) := by
  have z := List.all_eq_true.mp ascii_table c (List.mem_range.mpr h)
  rw [Bool.and_eq_true, beq_iff_eq] at z
  refine ⟨z.1, fun l => ?_⟩
  have y := z.2
  rw [l] at y
  simpa using y
theorem letter_ascii {c : Nat} (h : letter c = true) : c < 128 := by
  unfold letter at h
  simp at h
  omega
theorem name_txt (x : Str) : (Txt.isascii x && (Txt.isalpha x && Txt.islower x)) = (decide (1 ≤ x.length) && x.cps.all letter) := by
  rw [Bool.eq_iff_iff]
  simp only [Bool.and_eq_true, Txt.isascii, Txt.isalpha, Txt.islower, Array.all_eq_true, Array.any_eq_true, Bool.not_eq_true', decide_eq_true_eq]
  constructor
  · rintro ⟨h1, ⟨h2, h3⟩, h4, h5⟩
    refine ⟨h2, fun i hi => ?_⟩
    rw [(ascii_at (by simpa using h1 i hi)).1, h3 i hi, Bool.true_and, Bool.not_eq_true']
    exact (by
      have z : ¬ (x.cps.any fun c => Unicode.isUpper c || Unicode.isTitle c) = true := by rw [h5]; exact Bool.false_ne_true
      rw [Array.any_eq_true] at z
      cases e : (Unicode.isUpper x.cps[i] || Unicode.isTitle x.cps[i]) with
      | false => rfl
      | true => exact absurd ⟨i, hi, e⟩ z)
  · rintro ⟨h1, h2⟩
    have a : ∀ (i : Nat) (hi : i < x.cps.size), x.cps[i] < 128 := fun i hi => letter_ascii (h2 i hi)
    have b : ∀ (i : Nat) (hi : i < x.cps.size), Unicode.isAlpha x.cps[i] = true ∧ (Unicode.isUpper x.cps[i] || Unicode.isTitle x.cps[i]) = false := fun i hi => by
      have z := h2 i hi
      rw [(ascii_at (a i hi)).1] at z
      simpa using z
    refine ⟨fun i hi => by simpa using a i hi, ⟨h1, fun i hi => (b i hi).1⟩, ⟨0, h1, (ascii_at (a 0 h1)).2 (h2 0 h1)⟩, ?_⟩
    cases e : (x.cps.any fun c => Unicode.isUpper c || Unicode.isTitle c) with
    | false => rfl
    | true =>
      obtain ⟨i, hi, z⟩ := Array.any_eq_true.mp e
      rw [(b i hi).2] at z
      cases z
def nameD : PyData → Bool
  | .str x => isNm x
  | _ => false
/-- a tuple of a name and at most three others -/
def formD : PyData → Bool
  | .tuple (d :: ds) => decide (ds.length ≤ 3) && nameD d
  | _ => false
theorem kit_str : ∀ d : PyData, kitB (tyD d) "str" = some (match d with | .str _ => true | _ => false)
  | .none => (by decide +kernel : kitB "NoneType" "str" = some false)
  | .bool _ => (by decide +kernel : kitB "bool" "str" = some false)
  | .int _ => (by decide +kernel : kitB "int" "str" = some false)
  | .str _ => (by decide +kernel : kitB "str" "str" = some true)
  | .list _ => (by decide +kernel : kitB "list" "str" = some false)
  | .tuple _ => (by decide +kernel : kitB "tuple" "str" = some false)
  | .dict _ => (by decide +kernel : kitB "dict" "str" = some false)
theorem kit_tuple : ∀ d : PyData, kitB (tyD d) "tuple" = some (match d with | .tuple _ => true | _ => false)
  | .none => (by decide +kernel : kitB "NoneType" "tuple" = some false)
  | .bool _ => (by decide +kernel : kitB "bool" "tuple" = some false)
  | .int _ => (by decide +kernel : kitB "int" "tuple" = some false)
  | .str _ => (by decide +kernel : kitB "str" "tuple" = some false)
  | .list _ => (by decide +kernel : kitB "list" "tuple" = some false)
  | .tuple _ => (by decide +kernel : kitB "tuple" "tuple" = some true)
  | .dict _ => (by decide +kernel : kitB "dict" "tuple" = some false)
section
variable {P : Program} {w : World} {K : PySem.W.Frag} {mg : Str → Option Value} {base : Heap}
def spNm (K : PySem.W.Frag) : Sp := fun vs H Q _ => ∃ (x : V) (d : PyData), vs = [x] ∧ Dx K H x d ∧ (∀ y, d = .str y → y.length ≤ sizeLine) ∧ Q (.bl (nameD d)) H
theorem ok_name (T : Tx K mg) : FnOk P w K mg base CX0 1 T.ais_name T.dis_name ["value"] (spNm K) := by
  have nd := sc_is_name.nd
  obtain ⟨tk, hL⟩ := T.c_LONGEST_NAME
  refine T.fis_name.ok sc_is_name (fun vs H Q E h => ?_) (fun cdv A outer s H vs Q E hr h => ?_)
  · obtain ⟨x, d, rfl, _⟩ := h
    rfl
  · obtain ⟨x, d, rfl, hx, hz, q⟩ := h
    refine ⟨_, (pss_cons (ps_if (PW.pt (pw_or (pt_not (pt_val (pe_callB call_isi (by rfl) T.b_isinstance (by decide +kernel) (pa_cons (pv 0) (pa_cons (pe_bltn (v := .ty "str") (by rfl) T.b_str (by decide +kernel) rfl) pa_nil))))) (pw_or1 (pt_cmpR op_gt (pe_callB call_len_str (by rfl) T.b_len (by decide +kernel) (pa_cons (pv 0) pa_nil)) (pe_glob (v := .int 8) (by rfl) hL ⟨_, rfl⟩) (nomark _))))) (pss_one (ps_ret pe_bl)) pss_nil)
      (pss_one (ps_ret (pe_and (pe_bm0 PySem.F.plainAttrs_str PySem.F.slot_str_isascii PySem.F.type_str_isascii mt_isascii (pv 0)) (pe_and (pe_bm0 PySem.F.plainAttrs_str PySem.F.slot_str_isalpha PySem.F.type_str_isalpha mt_isalpha (pv 0)) (pe_one (pe_bm0 PySem.F.plainAttrs_str PySem.F.slot_str_islower PySem.F.type_str_islower mt_islower (pv 0)))))))), ?_⟩
    refine ⟨x, rfl, x, .ty "str", _, _, _, rfl, .ty _, hx.ty, kit_ty (kit_str d), _, rfl, ?_⟩
    cases hx with
    | str z =>
      refine iteF ⟨_, rfl, z, rfl, hz z rfl, _, _, rfl, rfl, _, rfl, ite2 (fun h8 => ?_) (fun h8 => ?_)⟩
      · -- too long
        have h9 := of_decide_eq_true h8
        have e : nameD (.str z) = false := by
          simp [nameD, isNm]
          omega
        rw [e] at q
        exact q
      · have h9 : z.length ≤ 8 := by
          simp at h8
          omega
        have e : nameD (.str z) = (Txt.isascii z && (Txt.isalpha z && Txt.islower z)) := by
          rw [name_txt]
          simp [nameD, isNm, h9]
        rw [e] at q
        refine ⟨_, rfl, rfl, z, rfl, rfl, trivial, _, rfl, ?_⟩
        cases e1 : Txt.isascii z with
        | false =>
          rw [e1] at q
          exact iteF q
        | true =>
          rw [e1, Bool.true_and] at q
          refine iteT ⟨_, rfl, rfl, z, rfl, rfl, trivial, _, rfl, ?_⟩
          cases e2 : Txt.isalpha z with
          | false =>
            rw [e2] at q
            exact iteF q
          | true =>
            rw [e2, Bool.true_and] at q
            exact iteT ⟨_, rfl, rfl, z, rfl, rfl, trivial, q⟩
    | non => exact iteT (iteT q)
    | bl b => exact iteT (iteT q)
    | int i => exact iteT (iteT q)
    | lst _ _ => exact iteT (iteT q)
    | tup _ _ => exact iteT (iteT q)
    | dic _ _ => exact iteT (iteT q)
/-- a value's form: a tuple of a name and at most three others -/
def spForm (K : PySem.W.Frag) : Sp := fun vs H Q _ => ∃ (x : V) (d : PyData), vs = [x] ∧ Dx K H x d ∧ (∀ ds, d = .tuple ds → ∀ y, .str y ∈ ds → y.length ≤ sizeLine) ∧ Q (.bl (formD d)) H
theorem ok_form (T : Tx K mg) : FnOk P w K mg base CX0 2 T.ahas_form T.dhas_form ["value"] (spForm K) := by
  have nd := sc_has_form.nd
  obtain ⟨tk, hM⟩ := T.c_MAX_PLACES
  have G := ok_name (P := P) (w := w) (base := base) T
  refine T.fhas_form.ok sc_has_form (fun vs H Q E h => ?_) (fun cdv A outer s H vs Q E hr h => ?_)
  · obtain ⟨x, d, rfl, _⟩ := h
    rfl
  · obtain ⟨x, d, rfl, hx, hz, q⟩ := h
    refine ⟨_, (pss_one (ps_ret (pe_and (pe_callB call_isi (by rfl) T.b_isinstance (by decide +kernel) (pa_cons (pv 0) (pa_cons (pe_bltn (v := .ty "tuple") (by rfl) T.b_tuple (by decide +kernel) rfl) pa_nil))) (pe_and (pe_chain op_le op_le pe_int (pe_callB call_len_seq (by rfl) T.b_len (by decide +kernel) (pa_cons (pv 0) pa_nil)) (pe_op op_add (pe_glob (v := .int 3) (by rfl) hM ⟨_, rfl⟩) pe_int)) (pe_one (pe_call G (hr.mono (by decide)) (by rfl) T.gis_name T.fis_name.kp T.nis_name .nil pass0 (pa_cons (pe_ix ix_tup (pv 0) pe_int (fun _ _ => rfl)) pa_nil))))))), ?_⟩
    refine ⟨x, rfl, x, .ty "tuple", _, _, _, rfl, .ty _, hx.ty, kit_ty (kit_tuple d), _, rfl, ?_⟩
    cases hx with
    | tup ha hs =>
      rename_i a xs ds
      have len := hs.length
      refine iteT ⟨_, rfl, a, xs, rfl, .inr (SqT.of ha), 1, _, rfl, rfl, _, rfl, ite2 (fun h1 => ?_) (fun h1 => ?_)⟩
      · have l1 : 0 < xs.length := by
          have := of_decide_eq_true h1
          omega
        refine ⟨3, 1, rfl, rfl, _, _, rfl, rfl, _, rfl, ite2 (fun h4 => ?_) (fun h4 => ?_)⟩
        · have l4 : xs.length ≤ 4 := by
            have := of_decide_eq_true h4
            omega
          cases hs with
          | nil => simp at l1
          | cons h0 ht =>
            rename_i v vs d ds
            refine ⟨_, rfl, a, _, 0, v, rfl, rfl, SqT.of ha, atI_nat (j := 0) rfl, v, d, rfl, h0, fun y e => hz _ rfl y (by rw [e]; exact List.mem_cons_self), ?_⟩
            have e : formD (.tuple (d :: ds)) = nameD d := by
              have := ht.length
              simp [formD]
              rw [List.length_cons] at l4
              omega
            rw [e] at q
            exact q
        · have e : formD (.tuple ds) = false := by
            cases ds with
            | nil => rfl
            | cons d ds =>
              rw [List.length_cons] at len
              simp [formD]
              intro z
              simp at h4
              omega
          rw [e] at q
          exact q
      · have e : formD (.tuple ds) = false := by
          cases ds with
          | nil => rfl
          | cons d ds =>
            rw [List.length_cons] at len
            simp at h1
            omega
        rw [e] at q
        exact ⟨_, rfl, iteF q⟩
    | non => exact iteF q
    | bl b => exact iteF q
    | int i => exact iteF q
    | lst _ _ => exact iteF q
    | str _ => exact iteF q
    | dic _ _ => exact iteF q
end
end K05
/-! What is a term, over data. -/
namespace K05
open PySem PySem.Spec PyProof.Rows L2 Kx
mutual
/-- how many parts, all counted -/
def szD : PyData → Nat
  | .tuple ds => szAll ds + 1
  | _ => 1
def szAll : List PyData → Nat
  | [] => 0
  | d :: ds => szD d + szAll ds
end
mutual
/-- of the form, all through -/
def formedD : PyData → Bool
  | .tuple (d :: ds) => decide (ds.length ≤ 3) && nameD d && formedAll ds
  | _ => false
def formedAll : List PyData → Bool
  | [] => true
  | d :: ds => formedD d && formedAll ds
end
abbrev NK := Str × Nat
def headD : PyData → Str
  | .str x => x
  | _ => Str.empty
mutual
/-- the names in a formed datum, with their places -/
def rowsD : PyData → List NK
  | .tuple (d :: ds) => (headD d, ds.length) :: rowsAll ds
  | _ => []
def rowsAll : List PyData → List NK
  | [] => []
  | d :: ds => rowsD d ++ rowsAll ds
end
mutual
/-- texts are short -/
def shortD : PyData → Bool
  | .str x => decide (x.length ≤ 1000)
  | .tuple ds => shortAll ds
  | _ => true
def shortAll : List PyData → Bool
  | [] => true
  | d :: ds => shortD d && shortAll ds
end
def Func (l : List NK) : Prop := ∀ p, p ∈ l → ∀ q, q ∈ l → p.1 = q.1 → p.2 = q.2
instance (l : List NK) : Decidable (Func l) := decidable_of_iff (∀ p ∈ l, ∀ q ∈ l, p.1 = q.1 → p.2 = q.2) ⟨fun h => h, fun h => h⟩
def termD (d : PyData) : Bool := formedD d && decide (Func (rowsD d))
theorem szD_pos (d : PyData) : 0 < szD d := by
  cases d <;> simp [szD]
theorem szAll_append : ∀ (l m : List PyData), szAll (l ++ m) = szAll l + szAll m
  | [], m => by simp [szAll]
  | d :: l, m => by simp [szAll, szAll_append l m, Nat.add_assoc]
theorem formedAll_append : ∀ (l m : List PyData), formedAll (l ++ m) = (formedAll l && formedAll m)
  | [], m => by simp [formedAll]
  | d :: l, m => by simp [formedAll, formedAll_append l m, Bool.and_assoc]
theorem rowsAll_append : ∀ (l m : List PyData), rowsAll (l ++ m) = rowsAll l ++ rowsAll m
  | [], m => by simp [rowsAll]
  | d :: l, m => by simp [rowsAll, rowsAll_append l m]
theorem shortAll_append : ∀ (l m : List PyData), shortAll (l ++ m) = (shortAll l && shortAll m)
  | [], m => by simp [shortAll]
  | d :: l, m => by simp [shortAll, shortAll_append l m, Bool.and_assoc]
theorem length_le_sz : ∀ l : List PyData, l.length ≤ szAll l
  | [] => Nat.le_refl _
  | d :: l => by
    have := length_le_sz l
    have := szD_pos d
    simp only [List.length_cons, szAll]
    omega
theorem Func.congr {l m : List NK} (h : ∀ p, p ∈ l ↔ p ∈ m) : Func l ↔ Func m :=
  ⟨fun f p hp q hq => f p ((h p).mpr hp) q ((h q).mpr hq), fun f p hp q hq => f p ((h p).mp hp) q ((h q).mp hq)⟩
/-- what is still to be seen: the names so far, the data that wait -/
def Todo (m : List NK) (st : List PyData) : Prop := formedAll st = true ∧ Func (m ++ rowsAll st)
theorem todo_one (d : PyData) : Todo [] [d] ↔ termD d = true := by
  simp [Todo, termD, formedAll, rowsAll]
theorem todo_bad {m : List NK} {st : List PyData} {e : PyData} (h : formD e = false) : ¬ Todo m (st ++ [e]) := by
  rintro ⟨h1, _⟩
  rw [formedAll_append] at h1
  simp [formedAll] at h1
  cases e with
  | tuple ds =>
    cases ds with
    | nil => simp [formedD] at h1
    | cons d ds =>
      simp [formD] at h
      simp [formedD] at h1
      obtain ⟨_, ⟨a, b⟩, c⟩ := h1
      have := h a
      rw [b] at this
      cases this
  | _ => simp [formedD] at h1
theorem todo_clash {m : List NK} {st ds : List PyData} {x : Str} {k : Nat} (h : (x, k) ∈ m) (hk : k ≠ ds.length) : ¬ Todo m (st ++ [.tuple (.str x :: ds)]) := by
  rintro ⟨_, h2⟩
  refine hk (h2 (x, k) (List.mem_append_left _ h) (x, ds.length) (List.mem_append_right _ ?_) rfl)
  rw [rowsAll_append]
  simp [rowsAll, rowsD, headD]
theorem todo_step {m m' : List NK} {st ds : List PyData} {x : Str} (hf : formD (.tuple (.str x :: ds)) = true) (hm : ∀ p, p ∈ m' ↔ p ∈ m ∨ p = (x, ds.length)) :
    Todo m (st ++ [.tuple (.str x :: ds)]) ↔ Todo m' (st ++ ds) := by
  unfold Todo
  rw [formedAll_append, formedAll_append, rowsAll_append, rowsAll_append]
  have e1 : formedAll [.tuple (.str x :: ds)] = formedAll ds := by
    simp [formD] at hf
    simp [formedAll, formedD, hf.1, hf.2]
  rw [e1]
  refine and_congr Iff.rfl (Func.congr fun p => ?_)
  simp only [List.mem_append, rowsAll, rowsD, headD, hm, List.append_nil, List.mem_cons]
  constructor
  · rintro (h | h | h | h)
    · exact .inl (.inl h)
    · exact .inr (.inl h)
    · exact .inl (.inr h)
    · exact .inr (.inr h)
  · rintro ((h | h) | h | h)
    · exact .inl h
    · exact .inr (.inr (.inl h))
    · exact .inr (.inl h)
    · exact .inr (.inr (.inr h))
theorem todo_done {m : List NK} (h : Func m) : Todo m [] := ⟨rfl, by simpa [rowsAll] using h⟩
end K05
/-! joint_places, is_term, is_cell, check_term. -/
namespace K05
open PySem PySem.Spec PyProof.Rows L2 Kx
theorem snocDx {K : PySem.W.Frag} {H : Hp} : ∀ {vs : List V} {st : List PyData} {e : PyData}, DxAll K H vs (st ++ [e]) → ∃ us v, vs = us ++ [v] ∧ DxAll K H us st ∧ Dx K H v e
  | _, [], e, h => by
    cases h with
    | cons a t =>
      cases t
      exact ⟨[], _, rfl, .nil, a⟩
  | _, d :: st, e, h => by
    cases h with
    | cons a t =>
      obtain ⟨us, v, rfl, q, r⟩ := snocDx t
      exact ⟨_ :: us, v, rfl, .cons a q, r⟩
theorem snoc_or {α : Type} (l : List α) : l = [] ∨ ∃ st e, l = st ++ [e] := by
  rcases List.eq_nil_or_concat l with h | ⟨st, e, h⟩
  · exact .inl h
  · exact .inr ⟨st, e, by rw [h, List.concat_eq_append]⟩
/-- a dict of names and places -/
def dictOf (m : List NK) : List (Key × V) := m.map fun p => (Sum.inr p.1, V.int p.2)
theorem val_some {x : Str} {v : V} : ∀ {m : List NK}, valV (dictOf m) (Sum.inr x) = some v → ∃ k, (x, k) ∈ m ∧ v = .int k
  | [], h => by cases h
  | p :: m, h => by
    by_cases e : p.1 = x
    · rw [show dictOf (p :: m) = (Sum.inr p.1, V.int p.2) :: dictOf m from rfl, valV_pos (by rw [e])] at h
      exact ⟨p.2, by rw [← e]; exact List.mem_cons_self, (Option.some.inj h).symm⟩
    · rw [show dictOf (p :: m) = (Sum.inr p.1, V.int p.2) :: dictOf m from rfl, valV_neg (fun z => e (Sum.inr.inj z))] at h
      obtain ⟨k, a, b⟩ := val_some h
      exact ⟨k, List.mem_cons_of_mem _ a, b⟩
theorem val_none {x : Str} : ∀ {m : List NK}, valV (dictOf m) (Sum.inr x) = none → ∀ k, (x, k) ∉ m
  | [], _, k => fun z => (nomatch z)
  | p :: m, h, k => by
    by_cases e : p.1 = x
    · rw [show dictOf (p :: m) = (Sum.inr p.1, V.int p.2) :: dictOf m from rfl, valV_pos (by rw [e])] at h
      cases h
    · rw [show dictOf (p :: m) = (Sum.inr p.1, V.int p.2) :: dictOf m from rfl, valV_neg (fun z => e (Sum.inr.inj z))] at h
      intro z
      rcases List.mem_cons.mp z with z | z
      · exact e (by rw [← z])
      · exact val_none h k z
theorem short_mem : ∀ {ds : List PyData} {y : Str}, shortAll ds = true → PyData.str y ∈ ds → y.length ≤ 1000
  | [], _, _, h => (nomatch h)
  | d :: ds, y, hs, h => by
    rw [shortAll, Bool.and_eq_true] at hs
    rcases List.mem_cons.mp h with e | h
    · rw [← e] at hs
      simpa [shortD] using hs.1
    · exact short_mem hs.2 h
theorem cut_one {xs : List V} (h : xs ≠ []) : cutV xs (some 1) none = xs.drop 1 := by
  unfold cutV
  rw [show HT.sIx xs.length 0 (some 1) = min 1 xs.length from HT.sIx_nat xs.length 0 1, HT.sIx_none]
  cases xs with
  | nil => exact absurd rfl h
  | cons x r =>
    rw [show min 1 (x :: r).length = 1 by rw [List.length_cons]; omega]
    simp
theorem iteNT {c A B : Prop} [Decidable c] (hc : ¬ c) (h : A) : if (!decide c) = true then A else B := by
  rw [decide_eq_false hc]
  exact iteT h
section
variable {P : Program} {w : World} {K : PySem.W.Frag} {mg : Str → Option Value} {base : Heap}
def spJoint (K : PySem.W.Frag) : Sp := fun vs H Q _ => ∃ (a : Addr) (x : V) (d : PyData), vs = [.ref a] ∧ SqL K H a [x] ∧ Dx K H x d ∧ shortD d = true ∧ szD d ≤ 100000 ∧
  ∀ v H', Same H H' → (termD d = false → v = .non) → (termD d = true → ∃ p ms, v = .ref p ∧ H p = none ∧ H' p = some (.dK (dictOf ms)) ∧ (ms.map Prod.fst).Nodup ∧ ms.length ≤ szD d ∧ ∀ r, r ∈ ms ↔ r ∈ rowsD d) → Q v H'
theorem ok_joint (T : Tx K mg) : FnOk P w K mg base CX0 3 T.ajoint_places T.djoint_places ["values"] (spJoint K) := by
  have nd := sc_joint_places.nd
  have G := ok_form (P := P) (w := w) (base := base) T
  refine T.fjoint_places.ok sc_joint_places (fun vs H Q E h => ?_) (fun cdv A outer s H vs Q E hr h => ?_)
  · obtain ⟨a, x, d, rfl, _⟩ := h
    rfl
  · obtain ⟨a, x, d, rfl, ha, hx, hs, hz, q⟩ := h
    have hu := hu_of hr
    refine ⟨_, (pss_cons (ps_set (i := 1) nd rfl (.inl rfl) pe_dnewK)
      (pss_cons (ps_set (i := 2) nd rfl (.inl rfl) (pe_callTy call_list_of (by rfl) T.b_list (by decide +kernel) (pa_cons (pv 0) pa_nil)))
      (pss_cons (ps_while PassesOwn.never (pt_truth (pv 2) (by intro _; rfl)) (pss_cons (ps_set (i := 3) nd rfl (.inl rfl) (pe_bm0 PySem.F.plainAttrs_list PySem.F.slot_list_pop PySem.F.type_list_pop mt_pop (pv 2)))
      (pss_cons (ps_if (pt_not (pt_val (pe_call G (hr.mono (by decide)) (by rfl) T.ghas_form T.fhas_form.kp T.nhas_form .nil pass0 (pa_cons (pv 3) pa_nil)))) (pss_one (ps_ret pe_non)) pss_nil)
      (pss_cons (ps_set (i := 4) nd rfl (.inl rfl) (pe_op op_sub (pe_callB call_len_seq (by rfl) T.b_len (by decide +kernel) (pa_cons (pv 3) pa_nil)) pe_int))
      (C8.pss_cut (ps_if (pt_cmpR op_ne (pe_dsetd (pv 1) (pe_ix ix_tup (pv 3) pe_int (fun _ _ => rfl)) (pv 4) ⟨by rfl, by rfl, by rfl, by rfl⟩) (pv 4) (nomark _)) (pss_one (ps_ret pe_non)) pss_nil)
      (pss_one (ps_expr (pe_bm PySem.F.plainAttrs_list PySem.F.slot_list_extend PySem.F.type_list_extend mt_extT (pv 2) (pa_cons (pe_slice sl_tupA (pv 3) (po_some pe_int) po_none) pa_nil)))))))))
      (pss_one (ps_ret (pv 1)))))), ?_⟩
    -- places = {}; waiting = list(values)
    intro pl npl
    have s1 : Same H (upd H pl (.dK [])) := same_new npl
    refine ⟨_, rfl, a, [x], rfl, .inl (s1.seq ha), fun wl nwl => ?_⟩
    have nwp : wl ≠ pl := fun e => by
      subst e
      rw [upd_same] at nwl
      cases nwl
    have nwl' : H wl = none := by rw [← nwl, upd_ne nwp]
    have s2 : Same H (upd (upd H pl (.dK [])) wl (.lst [x])) := s1.trans (same_new nwl)
    refine ⟨fun m σ H2 => (∃ y3 y4, σ = [some (.ref a), some (.ref pl), some (.ref wl), y3, y4]) ∧ ∃ (vs : List V) (st : List PyData) (ms : List NK), m = szAll st ∧ H2 wl = some (.lst vs) ∧ H2 pl = some (.dK (dictOf ms)) ∧ Same H H2 ∧ DxAll K H vs st ∧
        shortAll st = true ∧ ms.length + szAll st ≤ szD d ∧ Func ms ∧ (termD d = true ↔ Todo ms st) ∧ (ms.map Prod.fst).Nodup ∧ (∀ r, (r ∈ ms ∨ r ∈ rowsAll st) ↔ r ∈ rowsD d),
      ⟨szAll [d], ⟨none, none, rfl⟩, [x], [d], [], rfl, upd_same, ?_, s2, .cons hx .nil, by simp [shortAll, hs], by simp [szAll], fun p hp => (nomatch hp), (todo_one d).symm, List.nodup_nil, fun r => by simp [rowsAll]⟩, ?_⟩
    · rw [upd_ne nwp.symm, upd_same]
      rfl
    rintro m σ H2 ⟨⟨y3, y4, rfl⟩, vs, st, ms, rfl, ew, ep, sm, dx, sh, bd, fn, iff, nds, mem0⟩
    refine ⟨_, rfl, _, .inl ⟨vs, .inl (.inl ew), rfl⟩, ?_⟩
    rcases snoc_or st with rfl | ⟨st, e, rfl⟩
    · -- nothing waits
      cases dx
      refine iteF ⟨_, rfl, q _ _ sm (fun z => ?_) fun _ => ⟨pl, ms, rfl, npl, ep, nds, by omega, fun r => by rw [← mem0 r]; simp [rowsAll]⟩⟩
      rw [iff.mpr (todo_done fn)] at z
      cases z
    obtain ⟨us, v, rfl, dx', hv⟩ := snocDx dx
    have ne : (!(us ++ [v]).isEmpty) = true := by cases us <;> rfl
    rw [ne]
    rw [shortAll_append, Bool.and_eq_true] at sh
    have she : shortD e = true := by simpa [shortAll] using sh.2
    refine iteT ⟨fun σ' H' => ∃ m', m' < szAll (st ++ [e]) ∧ _, fun _ _ h => h, ?_⟩
    -- part = waiting.pop()
    refine ⟨_, rfl, .inl ⟨rfl, _, .inl (.inl ew)⟩, wl, _, v, rfl, rfl, ew, by simp, ?_⟩
    rw [List.dropLast_concat]
    have sm3 : Same H (upd H2 wl (.lst us)) := fun c o hc => by
      rw [upd_ne (ne_of_none hc nwl')]
      exact sm c o hc
    -- if not has_form(part): return None
    refine ⟨_, rfl, v, e, rfl, hv.up sm3, fun ds he y hy => ?_, _, rfl, ?_⟩
    · subst he
      refine Nat.le_trans (short_mem (by simpa [shortD] using she) hy) (by decide)
    cases hf : formD e with
    | false =>
      refine iteT (q .non _ sm3 (fun _ => rfl) fun z => ?_)
      exact absurd (iff.mp z) (todo_bad hf)
    | true =>
      obtain ⟨x1, es, rfl⟩ : ∃ x1 es, e = .tuple (.str x1 :: es) := by
        cases e with
        | tuple ds =>
          cases ds with
          | nil => cases hf
          | cons d0 ds =>
            simp only [formD, Bool.and_eq_true] at hf
            cases d0 with
            | str z => exact ⟨z, ds, rfl⟩
            | _ => cases hf.2
        | _ => cases hf
      cases hv with
      | tup hb hxs =>
      rename_i b xs
      cases hxs with
      | cons h0 hw =>
      rename_i v0 ws
      cases h0
      have lw := hw.length
      have l3 : es.length ≤ 3 := by
        simp only [formD, Bool.and_eq_true, decide_eq_true_eq] at hf
        exact hf.1
      -- many = len(part) - 1
      refine iteF ⟨_, rfl, b, _, rfl, .inr (SqT.of (sm3 _ _ hb)), _, 1, rfl, rfl, ?_⟩
      have em : ((V.str x1 :: ws).length : Int) - 1 = (es.length : Int) := by
        rw [List.length_cons]
        omega
      dsimp only
      rw [em]
      have ep3 : (upd H2 wl (.lst us)) pl = some (.dK (dictOf ms)) := by rw [upd_ne nwp.symm]; exact ep
      rw [szAll_append] at bd
      have z1 : szAll [PyData.tuple (.str x1 :: es)] = szAll es + 2 := by simp [szAll, szD]; omega
      rw [z1] at bd
      have lm : (dictOf ms).length < sizeLine := by
        rw [dictOf, List.length_map]
        exact Nat.lt_of_le_of_lt (show ms.length ≤ 100000 by omega) (by decide)
      have f0 : ∀ k, (x1, k) ∈ ms → k = es.length → Func ms := fun _ _ _ => fn
      -- places.setdefault(part[0], many) != many
      refine ⟨fun σ' H' => σ' = [some (.ref a), some (.ref pl), some (.ref wl), some (.ref b), some (.int es.length)] ∧ H' wl = some (.lst us) ∧ Same H H' ∧ ∃ ms', H' pl = some (.dK (dictOf ms')) ∧ (∀ p, p ∈ ms' ↔ p ∈ ms ∨ p = (x1, es.length)) ∧ Func ms' ∧ ms'.length ≤ ms.length + 1 ∧ (ms'.map Prod.fst).Nodup, ?_, ?_⟩
      · refine ⟨_, rfl, pl, rfl, .inl ⟨_, .inl ep3⟩, _, rfl, b, _, 0, _, rfl, rfl, SqT.of (sm3 _ _ hb), atI_nat (j := 0) rfl, _, rfl, dictOf ms, Sum.inr x1, ep3, rfl, lm, fun y hy => ?_, fun hy => ?_⟩
        · -- the name is there
          obtain ⟨k, mem, rfl⟩ := val_some hy
          by_cases hk : k = es.length
          · subst hk
            refine ⟨_, rfl, rfl, _, rfl, iteNS rfl ⟨rfl, upd_same, sm3, ms, ep3, fun p => ⟨.inl, fun z => ?_⟩, fn, Nat.le_succ _, nds⟩⟩
            rcases z with z | z
            · exact z
            · rw [z]
              exact mem
          · refine ⟨_, rfl, rfl, _, rfl, iteNT (fun z => hk ?_) (q .non _ sm3 (fun _ => rfl) fun z => ?_)⟩
            · have := V.int.inj z
              omega
            · exact absurd (iff.mp z) (todo_clash mem hk)
        · -- a new name
          have nk := val_none hy
          have npl' : H pl = none := npl
          refine ⟨_, rfl, rfl, _, rfl, iteNS rfl ⟨rfl, ?_, fun c o hc => ?_, ms ++ [(x1, es.length)], ?_, fun p => ?_, ?_, ?_, ?_⟩⟩
          · rw [upd_ne nwp, upd_same]
          · rw [upd_ne (ne_of_none hc npl')]
            exact sm3 c o hc
          · rw [upd_same, putK_new _ hy]
            simp [dictOf]
          · simp
          · rintro ⟨p1, p2⟩ hp ⟨r1, r2⟩ hr' e
            have e' : p1 = r1 := e
            subst e'
            simp only [List.mem_append, List.mem_singleton, Prod.mk.injEq] at hp hr'
            rcases hp with hp | ⟨g1, g2⟩
            · rcases hr' with hr' | ⟨g3, g4⟩
              · exact fn _ hp _ hr' rfl
              · subst g3
                exact absurd hp (nk _)
            · rcases hr' with hr' | ⟨g3, g4⟩
              · subst g1
                exact absurd hr' (nk _)
              · rw [g2, g4]
          · simp
          · rw [List.map_append, List.nodup_append]
            refine ⟨nds, by simp, fun a ha b hb e => ?_⟩
            obtain ⟨⟨r1, r2⟩, hr2, rfl⟩ := List.mem_map.mp ha
            simp at hb
            subst hb
            subst e
            exact nk _ hr2
      rintro σ' H' ⟨rfl, ew', sm', ms', ep', mem', fn', len', nds'⟩
      -- waiting.extend(part[1:])
      refine ⟨_, rfl, .inl ⟨rfl, _, .inl (.inl ew')⟩, _, rfl, 1, rfl, b, _, rfl, SqT.of (sm' _ _ hb), fun z => ?_, fun _ c nc => ?_⟩
      · exfalso
        have := z.1
        rw [show HT.sIx (V.str x1 :: ws).length 0 (some 1) = min 1 (V.str x1 :: ws).length from HT.sIx_nat _ 0 1, List.length_cons] at this
        omega
      have nwc : wl ≠ c := fun e => by
        rw [← e, ew'] at nc
        cases nc
      have npc : pl ≠ c := fun e => by
        rw [← e, ep'] at nc
        cases nc
      have lus := dx'.length
      have lst := length_le_sz st
      refine ⟨wl, c, us, ws, rfl, rfl, by rw [upd_ne nwc]; exact ew', ?_, ?_, ?_⟩
      · rw [cut_one (by simp)]
        exact SqT.of upd_same
      · exact Nat.le_trans (show us.length + ws.length ≤ 100003 by omega) (by decide)
      · refine ⟨szAll (st ++ es), ?_, ⟨_, _, rfl⟩, us ++ ws, st ++ es, ms', rfl, upd_same, ?_, fun d o hd => ?_, DxAll.append dx' hw, ?_, ?_, fn', iff.trans (todo_step hf mem'), nds', fun r => ?_⟩
        · rw [szAll_append, szAll_append, z1]
          omega
        · rw [upd_ne nwp.symm, upd_ne npc]
          exact ep'
        · rw [upd_ne (ne_of_none hd nwl'), upd_ne]
          · exact sm' d o hd
          · rintro rfl
            rw [sm' _ _ hd] at nc
            cases nc
        · rw [shortAll_append, sh.1]
          have z : x1.length ≤ 1000 ∧ shortAll es = true := by simpa [shortD, shortAll] using she
          simpa using z.2
        · rw [szAll_append]
          omega
        · rw [← mem0 r, mem' r, rowsAll_append, rowsAll_append]
          simp only [List.mem_append, rowsAll, rowsD, headD, List.append_nil, List.mem_cons]
          constructor
          · rintro ((h | h) | h | h)
            · exact .inl h
            · exact .inr (.inr (.inl h))
            · exact .inr (.inl h)
            · exact .inr (.inr (.inr h))
          · rintro (h | h | h | h)
            · exact .inl (.inl h)
            · exact .inr (.inl h)
            · exact .inl (.inr h)
            · exact .inr (.inr h)
end
end K05
/-! is_term, is_cell, check_term, make_term, make_cells. -/
namespace Kx
open PySem PySem.Spec PyProof.Rows L2
section
variable {X : Cx} {CX : CXT} {k : Nat} {f : Addr} {sp : Sp} {E : XK} {x : Str} {e : Expr} {es : List Expr} {t : TA} {p pos : Pos}
/-- f(e, ..), f a def with a star -/
theorem pe_callR (F : L2.FnR X.prog X.w X.K X.mg X.base CX k f sp) (hr : Room k X.A) (hg : Gl X x) (hm : X.mg x = some (.ref f)) (hk : PySem.W.keepIn X.K (.ref f) = true) (hx : Passes CX X E) (ha : PA X (e :: es) t) (hd : (x == ("__debug__" : Str)) = false := by decide)
    (he : starEach (e :: es) X.env = (false, eval e X.env) :: starEach es X.env := by rfl) (hpl : (backTo pos (starEach es X.env)).any (·.1) = false := by rfl) :
    PE X (.Call (.Name x p) (e :: es) [] pos) (tCall sp [] E t) := by
  refine ⟨fun pins s σ H Q I h => wpAny_Call_Name_kw (ld_glob I hg hm ?_ hd)⟩
  refine PySem.W.callWith_K (h₀ := X.base) I.ok.mod.kin hk (thn (ha.run pos pins s σ H _ I h) ?_) he hpl
  rintro us s1 ⟨vs, H1, I1, r, q⟩
  rw [List.append_nil] at q
  exact ⟨I1.kIn, wpAny_call (run_fnR F hr hx I1 r q)⟩
theorem pe_callR0 (F : L2.FnR X.prog X.w X.K X.mg X.base CX k f sp) (hr : Room k X.A) (hg : Gl X x) (hm : X.mg x = some (.ref f)) (hk : PySem.W.keepIn X.K (.ref f) = true) (hx : Passes CX X E) (hd : (x == ("__debug__" : Str)) = false := by decide) :
    PE X (.Call (.Name x p) [] [] pos) (tCall sp [] E tNil) := by
  refine ⟨fun pins s σ H Q I h => wpAny_Call_Name_kw (ld_glob I hg hm ?_ hd)⟩
  exact PySem.W.callWith_K0 I.kIn hk (wpAny_call (run_fnR F hr hx I .nil h))
end
end Kx
namespace K05
open PySem PySem.Spec PyProof.Rows L2 Kx
def cellD : PyData → Bool
  | .tuple ds => termD (.tuple ds) && decide (ds.length = 1)
  | _ => false
theorem cellD_eq {d : PyData} (h : termD d = true) : ∃ ds, d = .tuple ds := by
  cases d with
  | tuple ds => exact ⟨ds, rfl⟩
  | _ => simp [termD, formedD] at h
section
variable {P : Program} {w : World} {K : PySem.W.Frag} {mg : Str → Option Value} {base : Heap}
/-- x stands for d, of a bounded size -/
def Dz (K : PySem.W.Frag) (H : Hp) (x : V) (d : PyData) : Prop := Dx K H x d ∧ shortD d = true ∧ szD d ≤ 100000
theorem Dz.up {H H' : Hp} {x : V} {d : PyData} (h : Dz K H x d) (e : Same H H') : Dz K H' x d := ⟨h.1.up e, h.2⟩
def spTerm (K : PySem.W.Frag) : Sp := fun vs H Q _ => ∃ (x : V) (d : PyData), vs = [x] ∧ Dz K H x d ∧ ∀ H', Same H H' → Q (.bl (termD d)) H'
theorem ok_term (T : Tx K mg) : FnOk P w K mg base CX0 4 T.ais_term T.dis_term ["value"] (spTerm K) := by
  have nd := sc_is_term.nd
  have G := ok_joint (P := P) (w := w) (base := base) T
  refine T.fis_term.ok sc_is_term (fun vs H Q E h => ?_) (fun cdv A outer s H vs Q E hr h => ?_)
  · obtain ⟨x, d, rfl, _⟩ := h
    rfl
  · obtain ⟨x, d, rfl, ⟨hx, hs, hz⟩, q⟩ := h
    refine ⟨_, (pss_one (ps_ret (pe_cmpR op_notN (pe_call G (hr.mono (by decide)) (by rfl) T.gjoint_places T.fjoint_places.kp T.njoint_places .nil pass0 (pa_cons (pe_lst (pa_cons (pv 0) pa_nil)) pa_nil)) pe_non (nomark _)))), ?_⟩
    refine ⟨_, rfl, (by show 1 ≤ sizeLine; decide), fun p np => ?_⟩
    refine ⟨p, x, d, rfl, .inl (.inl upd_same), hx.up (same_new np), hs, hz, fun v H' sm n1 n2 => ⟨rfl, ?_⟩⟩
    have fin := q H' ((same_new np).trans sm)
    cases e : termD d with
    | false =>
      rw [e] at fin
      rw [n1 e]
      exact fin
    | true =>
      rw [e] at fin
      obtain ⟨c, _, ec, _⟩ := n2 e
      rw [ec]
      exact fin
def spCheck (K : PySem.W.Frag) : Sp := fun vs H Q _ => ∃ (x : V) (d : PyData), vs = [x] ∧ Dz K H x d ∧ termD d = true ∧ ∀ H', Same H H' → Q .non H'
theorem ok_check (T : Tx K mg) : FnOk P w K mg base CX0 5 T.acheck_term T.dcheck_term ["value"] (spCheck K) := by
  have nd := sc_check_term.nd
  have G := ok_term (P := P) (w := w) (base := base) T
  refine T.fcheck_term.ok sc_check_term (fun vs H Q E h => ?_) (fun cdv A outer s H vs Q E hr h => ?_)
  · obtain ⟨x, d, rfl, _⟩ := h
    rfl
  · obtain ⟨x, d, rfl, hx, ht, q⟩ := h
    refine ⟨_, (pss_one (ps_if (pt_not (pt_val (pe_call G (hr.mono (by decide)) (by rfl) T.gis_term T.fis_term.kp T.nis_term .nil pass0 (pa_cons (pv 0) pa_nil)))) (pss_one ps_never) pss_nil)), ?_⟩
    refine ⟨_, rfl, x, d, rfl, hx, fun H' sm => ⟨_, rfl, ?_⟩⟩
    rw [ht]
    exact iteF (q H' sm)
end
end K05
/-! The names of a turn. -/
namespace K05
open PySem PySem.Spec PyProof.Rows L2 Kx
/-- the heap without a -/
def Off (a : Addr) (H : Hp) : Hp := fun b => if b = a then none else H b
theorem Off.ne {a b : Addr} {H : Hp} (h : b ≠ a) : Off a H b = H b := if_neg h
theorem Off.of {a b : Addr} {H : Hp} {o : HO} (h : Off a H b = some o) : b ≠ a ∧ H b = some o := by
  unfold Off at h
  by_cases e : b = a
  · rw [if_pos e] at h
    cases h
  · rw [if_neg e] at h
    exact ⟨e, h⟩
theorem Off.same {a : Addr} {H : Hp} : Same (Off a H) H := fun b o h => (Off.of h).2
theorem But.off {a : Addr} {H H' : Hp} (h : But a H H') : Same (Off a H) (Off a H') := fun b o e => by
  obtain ⟨n, e⟩ := Off.of e
  rw [Off.ne n]
  exact h b o e n
abbrev Rw := Addr × NK
def rowO (r : NK) : HO := .tup [.str r.1, .int (r.2 : Int)]
/-- a list of rows at f -/
def RowsIn (H : Hp) (f : Addr) (zs : List Rw) : Prop := H f = some (.lst (zs.map fun z => V.ref z.1)) ∧ ∀ z, z ∈ zs → H z.1 = some (rowO z.2)
theorem RowsIn.up {H H' : Hp} {f : Addr} {zs : List Rw} (h : RowsIn H f zs) (e : Same H H') : RowsIn H' f zs := ⟨e _ _ h.1, fun z hz => e _ _ (h.2 z hz)⟩
theorem RowsIn.snoc {H : Hp} {f q : Addr} {zs : List Rw} {r : NK} (h : RowsIn H f zs) (n : H q = none) : RowsIn (upd (upd H q (rowO r)) f (.lst ((zs.map fun z => V.ref z.1) ++ [V.ref q]))) f (zs ++ [(q, r)]) := by
  have nf : q ≠ f := fun e => by
    rw [e, h.1] at n
    cases n
  refine ⟨by rw [upd_same, List.map_append]; rfl, fun z hz => ?_⟩
  rcases List.mem_append.mp hz with hz | hz
  · have := h.2 z hz
    rw [upd_ne (ne_of this h.1 (fun e => nomatch e)), upd_ne (ne_of_none this n)]
    exact this
  · rw [List.mem_singleton.mp hz, upd_ne nf, upd_same]
theorem RowsIn.len {zs : List Rw} : (zs.map fun z => V.ref z.1).length = zs.length := List.length_map ..
theorem Dice.ne {H : Hp} {a b : Addr} {n : Nat} (d : Dice H a n) (h : H b = none) : b ≠ a := fun e => by
  obtain ⟨_, _, _, z, _⟩ := d
  rw [e, z] at h
  cases h
theorem Dice.put {H : Hp} {a b : Addr} {n : Nat} {o : HO} (d : Dice H a n) (h : b ≠ a) : Dice (upd H b o) a n := d.same (upd_ne h.symm)
theorem But.free {a b : Addr} {H H' : Hp} (x : But a H H') (n : b ≠ a) (h : H' b = none) : H b = none := by
  cases e : H b with
  | none => rfl
  | some o =>
    rw [x b o e n] at h
    cases h
theorem But.put {a b : Addr} {H H' : Hp} {o : HO} (x : But a H H') (h : H b = none) : But a H (L2.upd H' b o) := fun c u hc nc => by
  rw [upd_ne (ne_of_none hc h)]
  exact x c u hc nc
theorem RowsIn.but {H H' : Hp} {a f : Addr} {n : Nat} {zs : List Rw} (h : RowsIn H f zs) (x : But a H H') (d : Dice H a n) (nf : f ≠ a) : RowsIn H' f zs := by
  obtain ⟨_, _, _, hz, _⟩ := d
  exact ⟨x _ _ h.1 nf, fun z m => x _ _ (h.2 z m) (ne_of (h.2 z m) hz (fun e => nomatch e))⟩
/-- good rows: names, few places, each name with its places; one without places -/
structure Good (l : List NK) : Prop where
  nm : ∀ r, r ∈ l → isNm r.1 = true ∧ r.2 ≤ 3
  fn : Func l
  cell : ∃ r, r ∈ l ∧ r.2 = 0
  few : l.length ≤ 20
  nk : ∀ r, r ∈ l → r.1 ≠ "k" ∧ r.1 ≠ "kk"
def tNm (x : Str) : Bool := isNm x && (!decide (x = "k") && !decide (x = "kk"))
theorem tNm_is {x : Str} (h : tNm x = true) : isNm x = true ∧ x ≠ "k" ∧ x ≠ "kk" := by
  simp only [tNm, Bool.and_eq_true, Bool.not_eq_true', decide_eq_false_iff_not] at h
  exact h
theorem Good.perm {l m : List NK} (g : Good l) (h : l.Perm m) : Good m := by
  refine ⟨fun r hr => g.nm r (h.mem_iff.mpr hr), (Func.congr fun p => h.mem_iff).mp g.fn, ?_, by rw [← h.length_eq]; exact g.few, fun r hr => g.nk r (h.mem_iff.mpr hr)⟩
  obtain ⟨r, hr, e⟩ := g.cell
  exact ⟨r, h.mem_iff.mp hr, e⟩
def pools : List (List Str) := [["a", "b", "c", "d"], ["a", "ab", "b", "ba"], ["x", "xin", "xout", "y"]]
def funcs : List Str := ["f", "g", "gg", "zzzzzzzz"]
theorem pools_ok : ∀ l, l ∈ pools → l.length = 4 ∧ ∀ x, x ∈ l → tNm x = true ∧ x ∉ funcs := by decide +kernel
theorem funcs_ok : funcs.Nodup ∧ ∀ x, x ∈ funcs → tNm x = true := by decide +kernel
theorem cut_upto {xs : List V} {i : Int} (h : 0 ≤ i) : cutV xs none (some i) = xs.take i.toNat := by
  obtain ⟨n, rfl⟩ := Int.eq_ofNat_of_zero_le h
  unfold cutV
  rw [show HT.sIx xs.length xs.length (some (n : Int)) = min n xs.length from HT.sIx_nat xs.length xs.length n, show HT.sIx xs.length 0 none = 0 from rfl, List.drop_zero, Nat.sub_zero, Int.toNat_natCast]
  by_cases e : n ≤ xs.length
  · rw [Nat.min_eq_left e]
  · rw [Nat.min_eq_right (by omega), List.take_length, List.take_of_length_le (by omega)]
theorem perm_back {α β : Type} {f : α → β} {l ys : List β} (h : l.Perm ys) : ∀ zs : List α, l = zs.map f → ∃ ws : List α, ws.Perm zs ∧ ys = ws.map f := by
  induction h with
  | nil =>
    intro zs e
    cases zs with
    | nil => exact ⟨[], List.Perm.refl _, rfl⟩
    | cons z zs => cases e
  | cons x _ ih =>
    intro zs e
    cases zs with
    | nil => cases e
    | cons z zs =>
      rw [List.map_cons] at e
      injection e with e1 e2
      obtain ⟨ws, p, q⟩ := ih zs e2
      exact ⟨z :: ws, p.cons z, by rw [List.map_cons, q, e1]⟩
  | swap x y l =>
    intro zs e
    cases zs with
    | nil => cases e
    | cons z zs =>
      cases zs with
      | nil => cases e
      | cons z2 zs =>
        rw [List.map_cons, List.map_cons] at e
        injection e with e1 e2
        injection e2 with e2 e3
        exact ⟨z2 :: z :: zs, List.Perm.swap _ _ _, by rw [List.map_cons, List.map_cons, e1, e2, e3]⟩
  | trans _ _ ih1 ih2 =>
    intro zs e
    obtain ⟨ws, p, q⟩ := ih1 zs e
    obtain ⟨vs, p2, q2⟩ := ih2 ws q
    exact ⟨vs, p2.trans p, q2⟩
theorem nodup_inj {α β : Type} {f : α → β} : ∀ {l : List α} {x y : α}, (l.map f).Nodup → x ∈ l → y ∈ l → f x = f y → x = y
  | [], _, _, _, h, _, _ => nomatch h
  | z :: l, x, y, nd, hx, hy, e => by
    rw [List.map_cons, List.nodup_cons] at nd
    rcases List.mem_cons.mp hx with h1 | h1
    · rcases List.mem_cons.mp hy with h2 | h2
      · rw [h1, h2]
      · exact absurd (List.mem_map.mpr ⟨y, h2, by rw [← e, h1]⟩) nd.1
    · rcases List.mem_cons.mp hy with h2 | h2
      · exact absurd (List.mem_map.mpr ⟨x, h1, by rw [e, h2]⟩) nd.1
      · exact nodup_inj nd.2 h1 h2 e
/-- a row as an item to be sorted -/
def rowI (z : Rw) : V × PyData := (V.ref z.1, PyData.tuple [.str z.2.1, .int (z.2.2 : Int)])
section
variable {P : Program} {w : World} {K : PySem.W.Frag} {mg : Str → Option Value} {base : Heap}
def spNames (K : PySem.W.Frag) : Sp := fun vs H Q _ => ∃ (a : Addr) (n : Nat), vs = [.ref a, .int 3] ∧ Dice H a n ∧ n + 100 < cap ∧
  ∀ (p : Addr) (zs : List Rw) H', But a H H' → Dice H' a (n + 100) → H p = none → p ≠ a → RowsIn H' p zs → Good (zs.map Prod.snd) → Q (.ref p) H'
theorem ok_names (T : Tx K mg) : FnOk P w K mg base CX0 3 T.a_law_names T.d_law_names ["dice", "few"] (spNames K) := by
  have nd := sc__law_names.nd
  have G1 := ok_roll (P := P) (w := w) (base := base) T
  have G2 := ok_pick (P := P) (w := w) (base := base) T
  have G3 := ok_mixed (P := P) (w := w) (base := base) T
  refine T.f_law_names.ok sc__law_names (fun vs H Q E h => ?_) (fun cdv A outer s H vs Q E hr h => ?_)
  · obtain ⟨a, n, rfl, _⟩ := h
    rfl
  · obtain ⟨a, n, rfl, hd, hn, q⟩ := h
    refine ⟨_, (pss_cons (ps_set (i := 2) nd rfl (.inl rfl) (pe_lst (pa_cons (pe_lst (pa_cons pe_str (pa_cons pe_str (pa_cons pe_str (pa_cons pe_str pa_nil))))) (pa_cons (pe_lst (pa_cons pe_str (pa_cons pe_str (pa_cons pe_str (pa_cons pe_str pa_nil))))) (pa_cons (pe_lst (pa_cons pe_str (pa_cons pe_str (pa_cons pe_str (pa_cons pe_str pa_nil))))) pa_nil)))))
      (C8.pss_cut (ps_set (i := 3) nd rfl (.inl rfl) (pe_call G3 (hr.mono (by omega)) (by rfl) T.g_law_mixed T.f_law_mixed.kp T.n_law_mixed .nil pass0 (pa_cons (pv 0) (pa_cons (pe_call G2 (hr.mono (by omega)) (by rfl) T.g_law_pick T.f_law_pick.kp T.n_law_pick .nil pass0 (pa_cons (pv 0) (pa_cons (pv 2) pa_nil))) pa_nil))))
      (pss_cons (ps_setLc (i := 5) (own := [("name", 4)]) (g := (gName 4)) (tt := tYes) (by rfl) nd rfl rfl (sw_true rfl rfl rfl (by decide +kernel)) (pi_list (pe_slice sl_list (pv 3) po_none (po_some (pe_op op_add pe_int (pe_call G1 (hr.mono (by omega)) (by rfl) T.g_law_roll T.f_law_roll.kp T.n_law_roll .nil pass0 (pa_cons (pv 0) (pa_cons pe_int pa_nil))))))) (blkOk_by (own := [("name", 4)]) (N := N__law_names) (sc := defScope s__law_names) (by decide +kernel)) (fun _ _ _ _ _ => pg_name (i := 4) nd rfl (.inl rfl)) (fun _ _ _ _ _ => pts_nil) (fun _ _ _ _ _ => (pe_tup (pa_cons (pv 4) (pa_cons pe_int pa_nil)))))
      (pss_cons (ps_for PassesOwn.never rfl (pi_list (pe_slice sl_list (pe_call G3 (hr.mono (by omega)) (by rfl) T.g_law_mixed T.f_law_mixed.kp T.n_law_mixed .nil pass0 (pa_cons (pv 0) (pa_cons (pe_lst (pa_cons pe_str (pa_cons pe_str (pa_cons pe_str (pa_cons pe_str pa_nil))))) pa_nil))) po_none (po_some (pe_op op_add pe_int (pe_call G1 (hr.mono (by omega)) (by rfl) T.g_law_roll T.f_law_roll.kp T.n_law_roll .nil pass0 (pa_cons (pv 0) (pa_cons (pv 1) pa_nil))))))) (pg_name (i := 4) nd rfl (.inl rfl)) (pss_one (ps_expr (pe_bm PySem.F.plainAttrs_list PySem.F.slot_list_append PySem.F.type_list_append mt_append (pv 5) (pa_cons (pe_tup (pa_cons (pv 4) (pa_cons (pe_op op_add pe_int (pe_callB (call_max2 rfl) (by rfl) T.b_max (by decide +kernel) (pa_cons pe_int (pa_cons (pe_op op_sub (pe_call G1 (hr.mono (by omega)) (by rfl) T.g_law_roll T.f_law_roll.kp T.n_law_roll .nil pass0 (pa_cons (pv 0) (pa_cons pe_int pa_nil))) pe_int) pa_nil)))) pa_nil))) pa_nil)))))
      (pss_one (ps_ret (pe_callB (cr_sortedD hr.units) (by rfl) T.b_sorted (by decide +kernel) (pa_cons (pv 5) pa_nil)))))))), ?_⟩
    -- pools
    refine ⟨(by show 4 ≤ sizeLine; decide), fun p1 n1 => ⟨(by show 4 ≤ sizeLine; decide), fun p2 n2 => ⟨(by show 4 ≤ sizeLine; decide), fun p3 n3 => ⟨(by show 3 ≤ sizeLine; decide), fun pl n4 => ?_⟩⟩⟩⟩
    have s1 := same_new (o := .lst [.str "a", .str "b", .str "c", .str "d"]) n1
    have s2 := same_new (o := .lst [.str "a", .str "ab", .str "b", .str "ba"]) n2
    have s3 := same_new (o := .lst [.str "x", .str "xin", .str "xout", .str "y"]) n3
    have s4 := same_new (o := .lst [.ref p1, .ref p2, .ref p3]) n4
    have dH := hd
    obtain ⟨i0, i1, i2, ha, _⟩ := dH
    have hpl : ∀ v, v ∈ [V.ref p1, .ref p2, .ref p3] → ∃ b l, v = .ref b ∧ l ∈ pools ∧ b ≠ a ∧ (upd (upd (upd (upd H p1 (.lst [.str "a", .str "b", .str "c", .str "d"])) p2 (.lst [.str "a", .str "ab", .str "b", .str "ba"])) p3 (.lst [.str "x", .str "xin", .str "xout", .str "y"])) pl (.lst [.ref p1, .ref p2, .ref p3])) b = some (.lst (l.map V.str)) := by
      intro v hv
      have na : ∀ {G : Hp} {b : Addr}, Same H G → G b = none → b ≠ a := fun sm e z => by
        rw [z, sm _ _ ha] at e
        cases e
      rcases List.mem_cons.mp hv with rfl | hv
      · exact ⟨p1, ["a", "b", "c", "d"], rfl, .head _, na (Same.refl H) n1, s4 _ _ (s3 _ _ (s2 _ _ upd_same))⟩
      · rcases List.mem_cons.mp hv with rfl | hv
        · exact ⟨p2, ["a", "ab", "b", "ba"], rfl, .tail _ (.head _), na s1 n2, s4 _ _ (s3 _ _ upd_same)⟩
        · cases List.mem_singleton.mp hv
          exact ⟨p3, ["x", "xin", "xout", "y"], rfl, .tail _ (.tail _ (.head _)), na (s1.trans s2) n3, s4 _ _ upd_same⟩
    have npa : pl ≠ a := fun z => by
      rw [z, s3 _ _ (s2 _ _ (s1 _ _ ha))] at n4
      cases n4
    refine ⟨fun σ' H' => But a H H' ∧ Dice H' a (n + 5) ∧ ∃ (c : Addr) (ys : List Str), σ' = [some (.ref a), some (.int 3), some (.ref pl), some (.ref c), none, none] ∧ c ≠ a ∧ H' c = some (.lst (ys.map V.str)) ∧ ys.length = 4 ∧ ∀ x, x ∈ ys → tNm x = true ∧ x ∉ funcs, ?_, ?_⟩
    · refine ⟨.ref a, rfl, .ref a, rfl, .ref pl, rfl, a, pl, n, _, rfl, ((((hd.up s1).up s2).up s3).up s4), by omega, .inl (.inl upd_same), npa, Nat.zero_lt_succ _, (by show 3 < 1000000; decide), fun i v H' bt dd hi => ?_⟩
      obtain ⟨b, l, rfl, hl, hb, eb⟩ := hpl v (List.mem_of_getElem? hi)
      obtain ⟨l4, lp⟩ := pools_ok l hl
      have eb' := bt _ _ eb hb
      refine ⟨a, b, n + 1, l.map V.str, rfl, dd, by rw [List.length_map]; omega, .inl (.inl eb'), hb, by rw [List.length_map]; omega, fun ys c H2 bt2 dd2 pm nc nca ec => ?_⟩
      obtain ⟨ws, pw, rfl⟩ := perm_back pm.symm l rfl
      rw [List.length_map, l4] at dd2
      exact ⟨(But.of (s1.trans (s2.trans (s3.trans s4)))).trans (bt.trans bt2), dd2, c, ws, rfl, nca, ec, by rw [pw.length_eq, l4], fun x hx => lp x (pw.mem_iff.mp hx)⟩
    rintro σ1 H1 ⟨bt1, dd1, c, ys, rfl, nca, ec, y4, hy⟩
    -- the cells
    refine ⟨_, rfl, _, rfl, a, n + 5, 3, rfl, dd1, by omega, by decide, by decide, fun r H2 bt2 dd2 r0 r1 => ⟨2, r, rfl, rfl, _, rfl, c, _, rfl, .inl (.inl (bt2 _ _ ec nca)), fun e ne => ⟨e, rfl, ⟨_, .inl (.inl upd_same)⟩, fun D nD => ?_⟩⟩⟩
    rw [cut_upto (by omega), ← List.map_take] at nD ⊢
    have nea := dd2.ne ne
    have sne := same_new (o := .lst ((ys.take (2 + r).toNat).map V.str)) ne
    have nDa := (dd2.up sne).ne nD
    have nDH := But.free (bt1.trans (bt2.trans (But.of sne))) nDa nD
    have lc : (ys.take (2 + r).toNat).length ≤ 4 ∧ 2 ≤ (ys.take (2 + r).toNat).length := by
      rw [List.length_take]
      omega
    have hc : ∀ x, x ∈ ys.take (2 + r).toNat → tNm x = true ∧ x ∉ funcs := fun x hx => hy x (List.mem_of_mem_take hx)
    generalize ys.take (2 + r).toNat = cs at lc hc nD sne
    refine lc_list (K := K) (a := e) (xs := cs.map V.str) (fun i H3 => But a H H3 ∧ Dice H3 a (n + 6) ∧ H3 e = some (.lst (cs.map V.str)) ∧ ∃ zs : List Rw, RowsIn H3 D zs ∧ zs.map Prod.snd = (cs.take i).map fun x => (x, 0))
      ⟨bt1.trans (bt2.trans (But.of (sne.trans (same_new nD)))), dd2.up (sne.trans (same_new nD)), same_new nD _ _ upd_same, [], ⟨upd_same, fun z hz => (nomatch hz)⟩, by simp⟩ (fun i H3 _ h => .inl (.inl h.2.2.1)) ?_ ?_
    · rintro i y H3 hi ⟨bt3, dd3, ee, zs, ri, em⟩
      rw [List.getElem?_map] at hi
      obtain ⟨x, hx, rfl⟩ := Option.map_eq_some_iff.mp hi
      have lt : i < cs.length := (List.getElem?_eq_some_iff.mp hx).1
      have lz : zs.length = i := by
        have := congrArg List.length em
        simp only [List.length_map, List.length_take] at this
        omega
      refine ⟨rfl, (iteT (B := False) ?_ : if true = true then _ else False)⟩
      refine ⟨_, rfl, (by show 2 ≤ sizeLine; decide), fun q nq => ?_⟩
      have nqD : D ≠ q := ne_of_none ri.1 nq
      have smq := same_new (o := rowO (x, 0)) nq
      have neD : e ≠ D := fun z => by
        rw [z, upd_same] at nD
        cases nD
      refine ⟨zs.map fun z => V.ref z.1, by rw [upd_ne nqD]; exact ri.1, by rw [List.length_map]; exact small1000 (by omega), (bt3.trans (But.of smq)).put nDH, (dd3.up smq).put nDa, ?_, zs ++ [(q, (x, 0))], ri.snoc (r := (x, 0)) nq, ?_⟩
      · rw [upd_ne neD]
        exact smq _ _ ee
      · rw [List.map_append, em, List.take_add_one, hx, List.map_append]
        rfl
    rintro H3 ⟨bt3, dd3, ee, zs, ri, em⟩
    rw [List.length_map, List.take_length] at em
    clear ee sne
    -- the others
    refine ⟨_, rfl, (by show 4 ≤ sizeLine; decide), fun g ng => ⟨a, g, n + 6, funcs.map V.str, rfl, dd3.up (same_new ng), by show n + 6 + 4 < cap; omega, .inl (.inl upd_same), dd3.ne ng, by decide, fun fs p H4 bt4 dd4 pm np npa' ep => ?_⟩⟩
    obtain ⟨ws, pw, rfl⟩ := perm_back pm.symm funcs rfl
    have dd4 : Dice H4 a (n + 10) := dd4
    have ri4 := (ri.up (same_new (o := .lst (funcs.map V.str)) ng)).but bt4 (dd3.up (same_new ng)) nDa
    have bt4 := bt3.trans ((But.of (same_new (o := .lst (funcs.map V.str)) ng)).trans bt4)
    refine ⟨_, rfl, _, rfl, a, n + 10, 3, rfl, dd4, by omega, by decide, by decide, fun r5 H5 bt5 dd5 r50 r51 => ⟨1, r5, rfl, rfl, _, rfl, p, _, rfl, .inl (.inl (bt5 _ _ ep npa')), fun u nu => ⟨u, rfl, ⟨_, .inl (.inl upd_same)⟩, ?_⟩⟩⟩
    rw [cut_upto (by omega), ← List.map_take]
    have nus : u ≠ D := (ne_of_none (ri4.but bt5 dd4 nDa).1 nu).symm
    have smu := same_new (o := .lst ((ws.take (1 + r5).toNat).map V.str)) nu
    have nua := dd5.ne nu
    have lf : (ws.take (1 + r5).toNat).length ≤ 3 := by
      rw [List.length_take]
      omega
    have ndw : (ws.take (1 + r5).toNat).Nodup := List.Nodup.sublist (List.take_sublist _ _) (pw.nodup_iff.mpr funcs_ok.1)
    have hw : ∀ x, x ∈ ws.take (1 + r5).toNat → x ∈ funcs := fun x hx => pw.mem_iff.mp (List.mem_of_mem_take hx)
    have bt6 := bt4.trans (bt5.trans (But.of smu))
    have dd6 := dd5.up smu
    have ri6 := (ri4.but bt5 dd4 nDa).up smu
    generalize ws.take (1 + r5).toNat = us at lf ndw hw bt6 dd6 ri6 ⊢
    clear smu
    have lcz : zs.length = cs.length := by
      have := congrArg List.length em
      simpa only [List.length_map] using this
    refine for_list (K := K) (a := u) (xs := us.map V.str) (fun i σ H7 => But a H H7 ∧ Dice H7 a (n + 11 + i) ∧ H7 u = some (.lst (us.map V.str)) ∧ ∃ (y : Option V) (fr : List Rw), σ = [some (.ref a), some (.int 3), some (.ref pl), some (.ref c), y, some (.ref D)] ∧ RowsIn H7 D (zs ++ fr) ∧ fr.map (fun z => z.2.1) = us.take i ∧ ∀ z, z ∈ fr → z.2.2 ≤ 3)
      ⟨bt6, dd6, upd_same, none, [], rfl, by rw [List.append_nil]; exact ri6, by simp, fun z hz => (nomatch hz)⟩ (fun i σ H3 _ h => .inl (.inl h.2.2.1)) ?_ ?_
    · rintro i y σ H7 hi ⟨bt7, dd7, eu, y0, fr, rfl, ri7, em7, h7⟩
      rw [List.getElem?_map] at hi
      obtain ⟨x, hx, rfl⟩ := Option.map_eq_some_iff.mp hi
      have lt : i < us.length := (List.getElem?_eq_some_iff.mp hx).1
      refine ⟨_, rfl, .inl ⟨rfl, _, .inl (.inl ri7.1)⟩, _, rfl, _, rfl, a, n + 11 + i, 5, rfl, dd7, by omega, by decide, by decide, fun r8 H8 bt8 dd8 r80 r81 => ⟨r8, 2, rfl, rfl, 0, r8 - 2, rfl, 1, _, rfl, rfl, (by show 2 ≤ sizeLine; decide), fun q nq => ?_⟩⟩
      have ri8 := ri7.but bt8 dd7 nDa
      obtain ⟨k, hk, ek⟩ : ∃ k : Nat, k ≤ 3 ∧ (1 + if r8 - 2 > 0 then r8 - 2 else 0 : Int) = k := by
        refine ⟨(1 + if r8 - 2 > 0 then r8 - 2 else 0 : Int).toNat, ?_, ?_⟩ <;> split <;> omega
      dsimp only
      rw [ek]
      have smq := same_new (o := rowO (x, k)) nq
      have eq8 := smq _ _ ri8.1
      have lfr : fr.length ≤ 3 := by
        have := congrArg List.length em7
        simp only [List.length_map, List.length_take] at this
        omega
      refine ⟨D, _, .ref q, rfl, rfl, eq8, by rw [List.length_map, List.length_append]; exact small1000 (by omega), (bt7.trans (bt8.trans (But.of smq))).put nDH, ((dd8.up smq).put nDa).le (by omega), ?_, some (.str x), fr ++ [(q, (x, k))], rfl, ?_, ?_, fun z hz => ?_⟩
      · rw [upd_ne nus]
        exact smq _ _ (bt8 _ _ eu nua)
      · rw [← List.append_assoc]
        exact ri8.snoc (r := (x, k)) nq
      · rw [List.map_append, em7, List.take_add_one, hx]
        rfl
      · rcases List.mem_append.mp hz with hz | hz
        · exact h7 z hz
        · rw [List.mem_singleton.mp hz]
          exact hk
    · rintro σ H7 ⟨bt7, dd7, eu, y0, fr, rfl, ri7, em7, h7⟩
      rw [List.length_map, List.take_length] at em7
      have lfr : fr.length ≤ 3 := by
        have := congrArg List.length em7
        simp only [List.length_map] at this
        omega
      -- sorted
      have eI : ∀ l : List Rw, (l.map rowI).map Prod.fst = l.map fun z => V.ref z.1 := fun l => by rw [List.map_map]; rfl
      have eS : ∀ l : List Rw, (l.map rowI).map Prod.snd = l.map fun z => PyData.tuple [.str z.2.1, .int (z.2.2 : Int)] := fun l => by rw [List.map_map]; rfl
      refine ⟨_, rfl, D, (zs ++ fr).map rowI, rfl, by rw [eI]; exact .inl (.inl ri7.1), fun z hz => ?_, ?_, ?_, by rw [List.length_map, List.length_append]; exact Nat.le_of_lt (small1000 (by omega)), fun z hz => ?_, fun p np => ?_⟩
      · obtain ⟨z, hz2, rfl⟩ := List.mem_map.mp hz
        exact .tup (.inl (.inl (ri7.2 z hz2))) (.cons (.str _) (.cons (.int _) .nil))
      · rw [eS]
        exact PySem.W.AllAlike.of fun b b' => rfl
      · rw [eS]
        exact PySem.W.Sortable.tuples fun b => ⟨_, _, rfl⟩
      · obtain ⟨z, hz2, rfl⟩ := List.mem_map.mp hz
        show PyData.depth (.tuple [.str z.2.1, .int (z.2.2 : Int)]) ≤ 60
        simp [PyData.depth, PyData.depthAll]
      · obtain ⟨ws2, pw2, ew2⟩ := perm_back (List.mergeSort_perm ((zs ++ fr).map rowI) (PySem.W.dataLe false Prod.snd)).symm (zs ++ fr) rfl
        rw [ew2, eI]
        have npa2 := dd7.ne np
        have smp := same_new (o := .lst (ws2.map fun z => V.ref z.1)) np
        refine q p ws2 _ (bt7.trans (But.of smp)) ((dd7.up smp).le ?_) (But.free bt7 npa2 np) npa2 ⟨upd_same, fun z hz => smp _ _ (ri7.2 z (pw2.mem_iff.mp hz))⟩ ?_
        · rw [List.length_map]
          omega
        · refine Good.perm ?_ (pw2.map Prod.snd).symm
          rw [List.map_append, em]
          have nmk : ∀ r, r ∈ (cs.map fun x => ((x, 0) : NK)) ++ fr.map Prod.snd → tNm r.1 = true ∧ r.2 ≤ 3 := fun r hr => by
            rcases List.mem_append.mp hr with h | h
            · obtain ⟨x, hx, rfl⟩ := List.mem_map.mp h
              exact ⟨(hc x hx).1, Nat.zero_le _⟩
            · obtain ⟨z, hz, rfl⟩ := List.mem_map.mp h
              refine ⟨funcs_ok.2 _ (hw _ ?_), h7 z hz⟩
              rw [← em7]
              exact List.mem_map.mpr ⟨z, hz, rfl⟩
          refine ⟨fun r hr => ⟨(tNm_is (nmk r hr).1).1, (nmk r hr).2⟩, ?_, ?_, ?_, fun r hr => (tNm_is (nmk r hr).1).2⟩
          · have inF : ∀ r, r ∈ fr.map Prod.snd → r.1 ∈ funcs := fun r hr => by
              obtain ⟨z, hz, rfl⟩ := List.mem_map.mp hr
              refine hw _ ?_
              rw [← em7]
              exact List.mem_map.mpr ⟨z, hz, rfl⟩
            have inC : ∀ r, r ∈ (cs.map fun x => ((x, 0) : NK)) → r.1 ∉ funcs ∧ r.2 = 0 := fun r hr => by
              obtain ⟨x, hx, rfl⟩ := List.mem_map.mp hr
              exact ⟨(hc x hx).2, rfl⟩
            intro r hr t ht e
            rcases List.mem_append.mp hr with h1 | h1
            · rcases List.mem_append.mp ht with h2 | h2
              · rw [(inC r h1).2, (inC t h2).2]
              · have z := (inC r h1).1
                rw [e] at z
                exact absurd (inF t h2) z
            · rcases List.mem_append.mp ht with h2 | h2
              · have z := (inC t h2).1
                rw [← e] at z
                exact absurd (inF r h1) z
              · obtain ⟨x, hx, rfl⟩ := List.mem_map.mp h1
                obtain ⟨y, hy, rfl⟩ := List.mem_map.mp h2
                rw [nodup_inj (f := fun z : Rw => z.2.1) (by rw [em7]; exact ndw) hx hy e]
          · cases cs with
            | nil =>
              simp at lc
            | cons x cs => exact ⟨(x, 0), List.mem_append_left _ (List.mem_map.mpr ⟨x, List.mem_cons_self, rfl⟩), rfl⟩
          · rw [List.length_append, List.length_map, List.length_map]
            omega
end
end K05
/-! A term of the turn. -/
namespace K05
open PySem PySem.Spec PyProof.Rows L2 Kx
/-- tuples stand -/
def Tups (H H' : Hp) : Prop := ∀ b xs, H b = some (.tup xs) → H' b = some (.tup xs)
theorem Tups.of {H H' : Hp} (x : Same H H') : Tups H H' := fun b xs h => x b _ h
theorem Tups.trans {H H1 H2 : Hp} (x : Tups H H1) (y : Tups H1 H2) : Tups H H2 := fun b xs h => y b xs (x b xs h)
theorem Tups.but {a : Addr} {n : Nat} {H H' : Hp} (x : But a H H') (d : Dice H a n) : Tups H H' := fun b xs h => by
  obtain ⟨_, _, _, z, _⟩ := d
  exact x b _ h (ne_of h z (fun e => nomatch e))
theorem Tups.lst {D : Addr} {H : Hp} {xs ys : List V} (h : H D = some (.lst xs)) : Tups H (upd H D (.lst ys)) := fun b zs e => by
  rw [upd_ne (ne_of e h (fun e => nomatch e))]
  exact e
mutual
/-- no list, no dict -/
def pureD : PyData → Bool
  | .list _ => false
  | .dict _ => false
  | .tuple ds => pureAll ds
  | _ => true
def pureAll : List PyData → Bool
  | [] => true
  | d :: ds => pureD d && pureAll ds
end
mutual
theorem Dx.ts {K : PySem.W.Frag} {H H' : Hp} (t : Tups H H') : ∀ (d : PyData) (x : V), pureD d = true → Dx K H x d → Dx K H' x d
  | .none, _, _, h => by cases h; exact .non
  | .bool b, _, _, h => by cases h; exact .bl b
  | .int i, _, _, h => by cases h; exact .int i
  | .str x, _, _, h => by cases h; exact .str x
  | .list ds, _, e, h => by cases e
  | .tuple ds, _, e, h => by cases h with | tup a b => exact .tup (t _ _ a) (DxAll.ts t ds _ (by simpa [pureD] using e) b)
  | .dict ds, _, e, h => by cases e
theorem DxAll.ts {K : PySem.W.Frag} {H H' : Hp} (t : Tups H H') : ∀ (ds : List PyData) (xs : List V), pureAll ds = true → DxAll K H xs ds → DxAll K H' xs ds
  | [], _, _, h => by cases h; exact .nil
  | d :: ds, _, e, h => by
    have e : pureD d = true ∧ pureAll ds = true := by simpa [pureAll] using e
    cases h with | cons a b => exact .cons (Dx.ts t d _ e.1 a) (DxAll.ts t ds _ e.2 b)
end
theorem pure_name {d : PyData} (h : nameD d = true) : pureD d = true := by
  cases d with
  | str x => rfl
  | _ => cases h
mutual
theorem pure_formed : ∀ (d : PyData), formedD d = true → pureD d = true
  | .none, h => rfl
  | .bool _, h => rfl
  | .int _, h => rfl
  | .str _, h => rfl
  | .list ds, h => by cases h
  | .dict ds, h => by cases h
  | .tuple [], h => rfl
  | .tuple (d :: ds), h => by
    simp only [formedD, Bool.and_eq_true] at h
    simp only [pureD, pureAll, Bool.and_eq_true]
    exact ⟨pure_name h.1.2, pure_formedAll ds h.2⟩
theorem pure_formedAll : ∀ (ds : List PyData), formedAll ds = true → pureAll ds = true
  | [], h => rfl
  | d :: ds, h => by
    simp only [formedAll, Bool.and_eq_true] at h
    simp only [pureAll, Bool.and_eq_true]
    exact ⟨pure_formed d h.1, pure_formedAll ds h.2⟩
end
theorem RowsIn.add {H : Hp} {f : Addr} {zs : List Rw} {z : Rw} (h : RowsIn H f zs) (n : H z.1 = some (rowO z.2)) : RowsIn (upd H f (.lst ((zs.map fun z => V.ref z.1) ++ [V.ref z.1]))) f (zs ++ [z]) := by
  refine ⟨by rw [upd_same, List.map_append]; rfl, fun y hy => ?_⟩
  have e : H y.1 = some (rowO y.2) := by
    rcases List.mem_append.mp hy with hy | hy
    · exact h.2 y hy
    · rw [List.mem_singleton.mp hy]
      exact n
  rw [upd_ne (ne_of e h.1 (fun e => nomatch e))]
  exact e
theorem RowsIn.off {H : Hp} {f D : Addr} {zs : List Rw} {xs ys : List V} (h : RowsIn H f zs) (e : H D = some (.lst xs)) (n : D ≠ f) : RowsIn (upd H D (.lst ys)) f zs := by
  refine ⟨by rw [upd_ne n.symm]; exact h.1, fun z hz => ?_⟩
  rw [upd_ne (ne_of (h.2 z hz) e (fun e => nomatch e))]
  exact h.2 z hz
def cost : Nat → Nat
  | 0 => 0
  | n + 1 => 2 + 3 * cost n
/-- a term with names of rs, n levels at most -/
structure Tm (rs : List NK) (n : Nat) (d : PyData) : Prop where
  fm : formedD d = true
  rw : ∀ r, r ∈ rowsD d → r ∈ rs
  dp : d.depth ≤ n
theorem formedAll_snoc {ds : List PyData} {d : PyData} : formedAll (ds ++ [d]) = (formedAll ds && formedD d) := by
  rw [formedAll_append]
  simp [formedAll]
theorem depthAll_snoc {n : Nat} : ∀ {ds : List PyData} {d : PyData}, PyData.depthAll ds ≤ n → d.depth ≤ n → PyData.depthAll (ds ++ [d]) ≤ n
  | [], d, _, h => by simpa [PyData.depthAll] using h
  | e :: ds, d, h1, h2 => by
    rw [List.cons_append, PyData.depthAll]
    rw [PyData.depthAll] at h1
    have := depthAll_snoc (ds := ds) (d := d) (n := n) (by omega) h2
    omega
section
variable {P : Program} {w : World} {K : PySem.W.Frag} {mg : Str → Option Value} {base : Heap}
def spLt (K : PySem.W.Frag) (n : Nat) : Sp := fun vs H Q _ => ∃ (a b : Addr) (m : Nat) (zs : List Rw), vs = [.ref a, .ref b, .int (n : Int)] ∧ 0 < n ∧ Dice H a m ∧ m + cost n < cap ∧ RowsIn H b zs ∧ b ≠ a ∧ Good (zs.map Prod.snd) ∧
  ∀ (x : V) (d : PyData) H', But a H H' → Dice H' a (m + cost n) → Dx K H' x d → Tm (zs.map Prod.snd) n d → Q x H'
theorem ok_lt (T : Tx K mg) : ∀ n, FnOk P w K mg base CX0 (n + 3) T.a_law_term T.d_law_term ["dice", "names", "deep"] (spLt K n)
  | 0 => by
    refine T.f_law_term.ok sc__law_term (fun vs H Q E h => ?_) (fun cdv A outer s H vs Q E hr h => ?_)
    · obtain ⟨a, b, m, zs, rfl, _⟩ := h
      rfl
    · obtain ⟨a, b, m, zs, rfl, h0, _⟩ := h
      exact absurd h0 (Nat.lt_irrefl _)
  | n + 1 => by
    have nd := sc__law_term.nd
    have G0 := ok_lt T n
    have G1 := ok_roll (P := P) (w := w) (base := base) T
    have G2 := ok_pick (P := P) (w := w) (base := base) T
    refine T.f_law_term.ok sc__law_term (fun vs H Q E h => ?_) (fun cdv A outer s H vs Q E hr h => ?_)
    · obtain ⟨a, b, m, zs, rfl, _⟩ := h
      rfl
    · obtain ⟨a, b, m, zs, rfl, _, hd, hc, ri, nba, gd, q⟩ := h
      refine ⟨_, (pss_cons (ps_setLc (i := 3) (own := [("row", 6)]) (g := (gName 6)) (by rfl) nd rfl rfl (sw_true rfl rfl rfl (by decide +kernel)) (pi_list (pv 1)) (blkOk_by (own := [("row", 6)]) (N := N__law_term) (sc := defScope s__law_term) (by decide +kernel)) (fun _ _ _ _ _ => pg_name (i := 6) nd rfl (.inl rfl)) (fun _ _ _ _ _ => (pts_one (pt_cmpR op_eq (pe_ix (r := rIxT K) ix_tup (pv 6) pe_int (fun _ _ => rfl)) pe_int (nomark _)))) (fun _ _ _ _ _ => (pv 6)))
      (C8.pss_cut (ps_if (PW.pt (pw_and (pt_cmpR op_gt (pv 2) pe_int (nomark _)) (pw_and1 (pt_cmpR op_gt (pe_call G1 (hr.mono (by omega)) (by rfl) T.g_law_roll T.f_law_roll.kp T.n_law_roll .nil pass0 (pa_cons (pv 0) (pa_cons pe_int pa_nil))) pe_int (nomark _))))) (pss_one (ps_set (i := 3) nd rfl (.inl rfl) (pv 1))) pss_nil)
      (pss_cons (ps_asg (pe_call G2 (hr.mono (by omega)) (by rfl) T.g_law_pick T.f_law_pick.kp T.n_law_pick .nil pass0 (pa_cons (pv 0) (pa_cons (pv 3) pa_nil))) (pg_tup rfl (pgs_cons (pg_name (i := 4) nd rfl (.inl rfl)) (pgs_cons (pg_name (i := 5) nd rfl (.inl rfl)) pgs_nil))))
      (pss_one (ps_ret (pe_op op_catA (pe_tup (pa_cons (pv 4) pa_nil)) (pe_callTy call_tuple_of (by rfl) T.b_tuple (by decide +kernel) (pa_cons (pe_lc (own := [("turn", 7)]) (g := (gName 7)) (tt := tYes) (by rfl) nd (pi_range1 (by rfl) T.b_range (pa_cons (pv 5) pa_nil)) (blkOk_by (own := [("turn", 7)]) (N := N__law_term) (sc := defScope s__law_term) (by decide +kernel)) (fun _ _ _ _ _ => pg_name (i := 7) nd rfl (.inl rfl)) (fun _ _ _ _ _ => pts_nil) (fun s1 H1 C1 cl1 fp1 => (pe_call G0 (hr.mono (by omega)) (by rfl) T.g_law_term T.f_law_term.kp T.n_law_term .nil pass0 (pa_cons (pv 0) (pa_cons (pv 1) (pa_cons (pe_op op_sub (pv 2) pe_int) pa_nil)))))) pa_nil)))))))), ?_⟩
      have lzs : zs.length ≤ 20 := by
        have := gd.few
        rwa [List.length_map] at this
      refine ⟨_, rfl, b, rfl, ⟨_, .inl (.inl ri.1)⟩, fun D nD => ?_⟩
      have smD := same_new (o := .lst []) nD
      have nDa := hd.ne nD
      refine lc_list (K := K) (a := b) (xs := zs.map fun z => V.ref z.1) (fun i H3 => Same H H3 ∧ ∃ ws : List Rw, RowsIn H3 D ws ∧ (∀ z, z ∈ ws → z ∈ zs ∧ z.2.2 = 0) ∧ (∀ (j : Nat) z, j < i → zs[j]? = some z → z.2.2 = 0 → z ∈ ws) ∧ ws.length ≤ i)
        ⟨smD, [], ⟨upd_same, fun z hz => (nomatch hz)⟩, fun z hz => (nomatch hz), fun j z h => absurd h (Nat.not_lt_zero _), Nat.le_refl _⟩ (fun i H3 _ h => .inl (.inl (h.1 _ _ ri.1))) ?_ ?_
      · rintro i y H3 hi ⟨sm, ws, rw3, h1, h2, l3⟩
        rw [List.getElem?_map] at hi
        obtain ⟨z, hz, rfl⟩ := Option.map_eq_some_iff.mp hi
        have lt : i < zs.length := (List.getElem?_eq_some_iff.mp hz).1
        have ez := sm _ _ (ri.2 z (List.mem_of_getElem? hz))
        refine ⟨rfl, _, rfl, z.1, _, 1, .int (z.2.2 : Int), rfl, rfl, SqT.of ez, atI_nat (j := 1) rfl, rfl, _, rfl, ite2 (fun e0 => ?_) (fun e0 => ?_)⟩
        · have z0 : z.2.2 = 0 := by
            have := of_decide_eq_true (p := V.int (z.2.2 : Int) = V.int 0) e0
            injection this with this
            exact Int.ofNat.inj this
          refine ⟨_, rfl, _, rw3.1, by rw [List.length_map]; exact small1000 (by omega), fun c o hc => ?_, ws ++ [z], rw3.add ez, fun y hy => ?_, fun j y hj hy h0 => ?_, by rw [List.length_append]; exact Nat.succ_le_succ l3⟩
          · rw [upd_ne (ne_of_none hc nD)]
            exact sm c o hc
          · rcases List.mem_append.mp hy with hy | hy
            · exact h1 y hy
            · rw [List.mem_singleton.mp hy]
              exact ⟨List.mem_of_getElem? hz, z0⟩
          · by_cases e : j = i
            · rw [e, hz] at hy
              cases hy
              exact List.mem_append_right _ (List.mem_singleton.mpr rfl)
            · exact List.mem_append_left _ (h2 j y (by omega) hy h0)
        · refine ⟨sm, ws, rw3, h1, fun j y hj hy h0 => ?_, by omega⟩
          by_cases e : j = i
          · rw [e, hz] at hy
            cases hy
            rw [h0] at e0
            exact absurd (decide_eq_true rfl) e0
          · exact h2 j y (by omega) hy h0
      rintro H3 ⟨sm, ws, rw3, h1, h2, l3⟩
      rw [List.length_map] at h2 l3
      have wne : ws ≠ [] := fun e => by
        obtain ⟨r, hr, r0⟩ := gd.cell
        obtain ⟨z, hz, rfl⟩ := List.mem_map.mp hr
        obtain ⟨j, hj⟩ := List.getElem?_of_mem hz
        have := h2 j z (List.getElem?_eq_some_iff.mp hj).1 hj r0
        rw [e] at this
        cases this
      refine ⟨fun σ' H' => But a H H' ∧ Dice H' a (m + 1) ∧ RowsIn H' b zs ∧ ∃ (s : Addr) (vs : List Rw), σ' = [some (.ref a), some (.ref b), some (.int ((n + 1 : Nat) : Int)), some (.ref s), none, none, none, none] ∧ RowsIn H' s vs ∧ s ≠ a ∧ vs ≠ [] ∧ vs.length ≤ 20 ∧ (∀ z, z ∈ vs → z ∈ zs) ∧ (n = 0 → ∀ z, z ∈ vs → z.2.2 = 0), ?_, ?_⟩
      · have stay : ∀ H', But a H3 H' → Dice H' a (m + 1) → But a H H' ∧ Dice H' a (m + 1) ∧ RowsIn H' b zs ∧ ∃ (s : Addr) (vs : List Rw), [some (V.ref a), some (.ref b), some (.int ((n + 1 : Nat) : Int)), some (.ref D), none, none, none, none] = [some (V.ref a), some (.ref b), some (.int ((n + 1 : Nat) : Int)), some (.ref s), none, none, none, none] ∧ RowsIn H' s vs ∧ s ≠ a ∧ vs ≠ [] ∧ vs.length ≤ 20 ∧ (∀ z, z ∈ vs → z ∈ zs) ∧ (n = 0 → ∀ z, z ∈ vs → z.2.2 = 0) := fun H' bt dd =>
          ⟨(But.of sm).trans bt, dd, (ri.up sm).but bt (hd.up sm) nba, D, ws, rfl, rw3.but bt (hd.up sm) nDa, nDa, wne, by omega, fun z hz => (h1 z hz).1, fun _ z hz => (h1 z hz).2⟩
        refine ⟨_, rfl, _, _, rfl, rfl, _, rfl, ite2 (fun e1 => ?_) (fun e1 => ?_)⟩
        · have n0 : n ≠ 0 := fun z => by
            have := of_decide_eq_true e1
            rw [z] at this
            exact absurd this (by decide)
          refine ⟨_, rfl, a, m, 3, rfl, hd.up sm, ?_, by decide, by decide, fun r H4 bt dd r0 r1 => ⟨_, _, rfl, rfl, _, rfl, ite2 (fun e2 => ?_) (fun e2 => ?_)⟩⟩
          · rw [cost] at hc
            omega
          · have ri4 := (ri.up sm).but bt (hd.up sm) nba
            refine ⟨_, rfl, (But.of sm).trans bt, dd, ri4, b, zs, rfl, ri4, nba, fun z => ?_, lzs, fun z hz => hz, fun z => absurd z n0⟩
            rw [z] at h1
            cases ws with
            | nil => exact wne rfl
            | cons y ws => cases (h1 y List.mem_cons_self).1
          · exact stay H4 bt dd
        · exact stay H3 (But.refl a H3) ((hd.up sm).le (Nat.le_succ m))
      rintro σ1 H5 ⟨bt5, dd5, ri5, s5, vs, rfl, rs5, ns5, vne, lvs, sub, leaf⟩
      have vp : 0 < vs.length := by
        cases vs with
        | nil => exact absurd rfl vne
        | cons _ _ => exact Nat.succ_pos _
      -- the pick
      refine ⟨_, rfl, _, rfl, a, s5, m + 1, _, rfl, dd5, ?_, .inl (.inl rs5.1), ns5, by rw [List.length_map]; exact vp, by rw [List.length_map]; omega, fun i v H6 bt6 dd6 hi => ?_⟩
      · rw [cost] at hc
        omega
      rw [List.getElem?_map] at hi
      obtain ⟨z, hz, rfl⟩ := Option.map_eq_some_iff.mp hi
      have zin := sub z (List.mem_of_getElem? hz)
      have leaf := fun e => leaf e z (List.mem_of_getElem? hz)
      have rs6 := rs5.but bt6 dd5 ns5
      have ri6 := ri5.but bt6 dd5 nba
      have ez := rs6.2 z (List.mem_of_getElem? hz)
      have gz := gd.nm z.2 (List.mem_map.mpr ⟨z, zin, rfl⟩)
      have zmem : z.2 ∈ zs.map Prod.snd := List.mem_map.mpr ⟨z, zin, rfl⟩
      have bt6 := bt5.trans bt6
      obtain ⟨za, nm, k⟩ := z
      dsimp only at gz leaf ez zmem
      refine ⟨za, _, rfl, SqT.of ez, rfl, _, _, rfl, _, _, rfl, rfl, ?_⟩
      -- the head
      refine ⟨_, rfl, (by show 1 ≤ sizeLine; decide), fun t nt => ?_⟩
      have smt := same_new (o := .tup [.str nm]) nt
      have nta := dd6.ne nt
      refine ⟨_, rfl, (k : Int), rfl, by omega, by omega, fun D2 nD2 => ?_⟩
      have smD2 := same_new (o := .lst []) nD2
      have nD2a := (dd6.up smt).ne nD2
      have btD := bt6.trans ((But.of smt).trans (But.of smD2))
      have nD2H := But.free (bt6.trans (But.of smt)) nD2a nD2
      have ek : ((k : Int)).toNat = k := Int.toNat_natCast k
      rw [ek]
      refine lc_range (fun i H7 => But a H H7 ∧ Dice H7 a (m + 2 + i * cost n) ∧ RowsIn H7 b zs ∧ H7 t = some (.tup [.str nm]) ∧ ∃ (ws : List V) (ds : List PyData), H7 D2 = some (.lst ws) ∧ DxAll K H7 ws ds ∧ ds.length = i ∧ formedAll ds = true ∧ (∀ r, r ∈ rowsAll ds → r ∈ zs.map Prod.snd) ∧ PyData.depthAll ds ≤ n)
        ⟨btD, (dd6.up (smt.trans smD2)).le (Nat.le_add_right _ _), ri6.up (smt.trans smD2), smD2 _ _ upd_same, [], [], upd_same, .nil, rfl, rfl, fun r h => (nomatch h), Nat.zero_le _⟩ ?_ ?_
      · rintro i H7 hi ⟨bt7, dd7, ri7, et7, ws7, ds7, eD7, dx7, l7, f7, r7, p7⟩
        have n0 : 0 < n := by
          cases n with
          | zero =>
            have := leaf rfl
            omega
          | succ n => exact Nat.succ_pos _
        refine ⟨rfl, (iteT (B := False) ?_ : if true = true then _ else False)⟩
        have c1 : cost (n + 1) = 2 + 3 * cost n := rfl
        have ic : i * cost n + cost n ≤ 3 * cost n := by
          have := Nat.mul_le_mul_right (cost n) (show i + 1 ≤ 3 by omega)
          rwa [Nat.add_mul, Nat.one_mul] at this
        refine ⟨_, rfl, _, rfl, _, rfl, _, _, rfl, rfl, a, b, m + 2 + i * cost n, zs, ?_, n0, dd7, by omega, ri7, nba, gd, fun x d H8 bt8 dd8 hx tm => ?_⟩
        · show [V.ref a, V.ref b, V.int (((n + 1 : Nat) : Int) - 1)] = _
          rw [show ((n + 1 : Nat) : Int) - 1 = (n : Int) by omega]
        · have ts := Tups.but bt8 dd7
          have eD8 := bt8 _ _ eD7 nD2a
          have tD : Tups H8 (upd H8 D2 (.lst (ws7 ++ [x]))) := Tups.lst eD8
          have lw := dx7.length
          refine ⟨ws7, eD8, small1000 (by omega), (bt7.trans bt8).put nD2H, (dd8.put nD2a).le (by rw [Nat.add_mul, Nat.one_mul]; omega), ?_, tD _ _ (ts _ _ et7), ws7 ++ [x], ds7 ++ [d], upd_same, DxAll.append (DxAll.ts (ts.trans tD) _ _ (pure_formedAll _ f7) dx7) (.cons (Dx.ts tD _ _ (pure_formed _ tm.fm) hx) .nil), by rw [List.length_append, l7]; rfl, by rw [formedAll_snoc, f7, tm.fm]; rfl, fun r hr => ?_, depthAll_snoc p7 tm.dp⟩
          · exact ((ri7.but bt8 dd7 nba).off eD8 (ne_of_none ri.1 nD2H).symm)
          · rw [rowsAll_append] at hr
            rcases List.mem_append.mp hr with h | h
            · exact r7 r h
            · simp only [rowsAll, List.append_nil] at h
              exact tm.rw r h
      · rintro H7 ⟨bt7, dd7, ri7, et7, ws7, ds7, eD7, dx7, l7, f7, r7, p7⟩
        have lw := dx7.length
        have c1 : cost (n + 1) = 2 + 3 * cost n := rfl
        have kc : k * cost n ≤ 3 * cost n := Nat.mul_le_mul_right (cost n) gz.2
        refine ⟨D2, ws7, rfl, .inl ⟨.inl (.inl eD7), fun u nu => ?_⟩⟩
        have smu := same_new (o := .tup ws7) nu
        have et8 := smu _ _ et7
        have dx8 := dx7.up smu
        have fm : formedD (.tuple (.str nm :: ds7)) = true := by
          simp [formedD, nameD, gz.1, f7, l7, gz.2]
        have tm : Tm (zs.map Prod.snd) (n + 1) (.tuple (.str nm :: ds7)) := by
          refine ⟨fm, fun r hr => ?_, ?_⟩
          · rw [rowsD, headD, l7] at hr
            rcases List.mem_cons.mp hr with h | h
            · rw [h]
              exact zmem
            · exact r7 r h
          · simp only [PyData.depth, PyData.depthAll]
            omega
        have bt8 := bt7.trans (But.of smu)
        have dd8 := (dd7.up smu).le (show m + 2 + k * cost n ≤ m + cost (n + 1) by omega)
        refine ⟨t, u, _, _, rfl, rfl, SqT.of et8, SqT.of upd_same, Nat.le_of_lt (small1000 (by rw [List.length_singleton]; omega)), fun z => (nomatch z), fun _ e => ?_, fun _ _ v nv => ?_⟩
        · subst e
          cases dx8
          exact q _ _ _ bt8 dd8 (.tup et8 (.cons (.str _) .nil)) tm
        · have smv := same_new (o := .tup ([V.str nm] ++ ws7)) nv
          exact q _ _ _ (bt8.trans (But.of smv)) (dd8.up smv) (.tup upd_same (.cons (.str _) (dx8.up smv))) tm
end
end K05
/-! Displays of data, all at once. -/
namespace Kx
open PySem PySem.Spec PyProof.Rows L2
/-- the heap without S -/
def OffS (S : List Addr) (H : Hp) : Hp := fun b => if b ∈ S then none else H b
def Olds (S : List Addr) (H : Hp) : Prop := ∀ b, b ∈ S → H b ≠ none
section
variable {S : List Addr} {H H' : Hp}
theorem OffS.of {b : Addr} {o : HO} (h : OffS S H b = some o) : b ∉ S ∧ H b = some o := by
  unfold OffS at h
  by_cases e : b ∈ S
  · rw [if_pos e] at h
    cases h
  · rw [if_neg e] at h
    exact ⟨e, h⟩
theorem OffS.out {b : Addr} {o : HO} (n : b ∉ S) (h : H b = some o) : OffS S H b = some o := by
  unfold OffS
  rw [if_neg n]
  exact h
theorem OffS.same (e : Same H H') : Same (OffS S H) (OffS S H') := fun b o h => by
  obtain ⟨n, h⟩ := OffS.of h
  exact OffS.out n (e b o h)
theorem OffS.all : Same (OffS S H) H := fun b o h => (OffS.of h).2
theorem Olds.up (h : Olds S H) (e : Same H H') : Olds S H' := fun b hb z => by
  have := h b hb
  cases k : H b with
  | none => exact this k
  | some o =>
    rw [e b o k] at z
    cases z
theorem Olds.new {p : Addr} (h : Olds S H) (e : H p = none) : p ∉ S := fun z => h p z e
theorem same_put {p : Addr} {o : HO} (h : H p = none) : Same H (upd H p o) := fun b x e => by
  rw [upd_ne (ne_of_none e h)]
  exact e
/-- te makes d anew -/
def Makes (K : PySem.W.Frag) (S : List Addr) (te : TE) (d : PyData) : Prop := ∀ (σ : L2.St) (H : Hp) (Q : VK), Olds S H → (∀ x H', Same H H' → Dx K (OffS S H') x d → Q x H') → te σ H Q
def MakesAll (K : PySem.W.Frag) (S : List Addr) (ta : TA) (ds : List PyData) : Prop := ∀ (σ : L2.St) (H : Hp) (Q : List V → Hp → Prop), Olds S H → (∀ xs H', Same H H' → DxAll K (OffS S H') xs ds → Q xs H') → ta σ H Q
variable {K : PySem.W.Frag} {te : TE} {ta : TA} {d : PyData} {ds : List PyData}
theorem mk_str (x : Str) : Makes K S (tC (.str x)) (.str x) := fun σ H Q _ q => q _ H (Same.refl H) (.str x)
theorem mk_int (i : Int) : Makes K S (tC (.int i)) (.int i) := fun σ H Q _ q => q _ H (Same.refl H) (.int i)
theorem mk_bl (b : Bool) : Makes K S (tC (.bl b)) (.bool b) := fun σ H Q _ q => q _ H (Same.refl H) (.bl b)
theorem mk_non : Makes K S (tC .non) .none := fun σ H Q _ q => q _ H (Same.refl H) .non
theorem mk_nil : MakesAll K S tNil [] := fun σ H Q _ q => q _ H (Same.refl H) .nil
theorem mk_cons (h1 : Makes K S te d) (h2 : MakesAll K S ta ds) : MakesAll K S (tCons te ta) (d :: ds) := fun σ H Q o q =>
  h1 σ H _ o fun x H1 s1 d1 => h2 σ H1 _ (o.up s1) fun xs H2 s2 d2 => q _ H2 (s1.trans s2) (.cons (d1.up (OffS.same s2)) d2)
theorem mk_tup (h : MakesAll K S ta ds) (few : ds.length ≤ sizeLine := by decide) : Makes K S (tTup ta) (.tuple ds) := fun σ H Q o q =>
  h σ H _ o fun xs H1 s1 d1 => ⟨by rw [d1.length]; exact few, fun p np => q _ _ (s1.trans (same_put np)) (.tup (OffS.out ((o.up s1).new np) upd_same) (d1.up (OffS.same (same_put np))))⟩
theorem mk_lst (h : MakesAll K S ta ds) (few : ds.length ≤ sizeLine := by decide) : Makes K S (tLst ta) (.list ds) := fun σ H Q o q =>
  h σ H _ o fun xs H1 s1 d1 => ⟨by rw [d1.length]; exact few, fun p np => q _ _ (s1.trans (same_put np)) (.lst (OffS.out ((o.up s1).new np) upd_same) (d1.up (OffS.same (same_put np))))⟩
theorem mk_dic0 : Makes K S tDNewK (.dict []) := fun σ H Q o q p np => q _ _ (same_put np) (.dic (OffS.out (o.new np) upd_same) .nil)
theorem mk_dic1 (k : Str) (i : Int) : Makes K S (tDisp [(tC (.str k), tC (.int i))]) (.dict [(.str k, .int i)]) := fun σ H Q o q p np => by
  refine ⟨upd_same, [(.inr k, .int i)], rfl, (by show 1 ≤ 15; decide), q _ _ (fun b u hb => ?_) (.dic (OffS.out (o.new np) upd_same) (KvD.int .nil))⟩
  have n := ne_of_none hb np
  rw [upd_ne n, upd_ne n]
  exact hb
/-- xs + ys of such lists -/
theorem mk_cat {tb : TE} {es : List PyData} (h1 : Makes K S te (.list ds)) (h2 : Makes K S tb (.list es)) (few : ds.length + es.length ≤ sizeLine := by decide) : Makes K S (tOp rCat te tb) (.list (ds ++ es)) := fun σ H Q o q =>
  h1 σ H _ o fun x H1 s1 d1 => h2 σ H1 _ (o.up s1) fun y H2 s2 d2 => by
    have d1 := d1.up (OffS.same s2)
    cases d1 with
    | lst ha hx =>
    cases d2 with
    | lst hb hy =>
    rename_i a xs b ys
    refine ⟨a, b, xs, ys, rfl, rfl, OffS.all _ _ ha, OffS.all _ _ hb, by rw [hx.length, hy.length]; exact few, fun p np => ?_⟩
    exact q _ _ (s1.trans (s2.trans (same_put np))) (.lst (OffS.out (((o.up s1).up s2).new np) upd_same) (DxAll.append (hx.up (OffS.same (same_put np))) (hy.up (OffS.same (same_put np)))))
/-- name = [..] of such data -/
theorem asg_mk {j : Nat} {rest : TS} {D : Ends} {σ : L2.St} (m : Makes K S te d) (o : Olds S H) (q : ∀ x H', Same H H' → Dx K (OffS S H') x d → rest D (σ.set j (some x)) H') : tSeq (tAsg te (gName j)) rest D σ H := m σ H _ o q
/-- name = name + [..] of such data -/
theorem cat_mk {j : Nat} {rest : TS} {D : Ends} {σ : L2.St} {i : Nat} {x : V} {es : List PyData} {tb : TE} (hx : σ[i]? = some (some x)) (d1 : Dx K (OffS S H) x (.list ds)) (m : Makes K S tb (.list es)) (few : ds.length + es.length ≤ sizeLine) (o : Olds S H)
    (q : ∀ x H', Same H H' → Dx K (OffS S H') x (.list (ds ++ es)) → rest D (σ.set j (some x)) H') : tSeq (tAsg (tOp rCat (tVar i) tb) (gName j)) rest D σ H :=
  ⟨x, hx, m σ H _ o fun y H2 s2 d2 => by
    have d1 := d1.up (OffS.same s2)
    cases d1 with
    | @lst a xs _ ha hx =>
    cases d2 with
    | @lst b ys _ hb hy =>
    refine ⟨a, b, xs, ys, rfl, rfl, OffS.all _ _ ha, OffS.all _ _ hb, by rw [hx.length, hy.length]; exact few, fun p np => ?_⟩
    exact q _ _ (s2.trans (same_put np)) (.lst (OffS.out ((o.up s2).new np) upd_same) (DxAll.append (hx.up (OffS.same (same_put np))) (hy.up (OffS.same (same_put np)))))⟩
end
end Kx
/-! Odd values. -/
namespace Kx
open PySem PySem.Spec PyProof.Rows L2
section
variable {K : PySem.W.Frag} {S : List Addr}
theorem mk_neg (i : Int) : Makes K S (tUn (rU fun i => .int (-i)) (tC (.int i))) (.int (-i)) := fun σ H Q _ q => ⟨i, rfl, q _ H (Same.refl H) (.int _)⟩
theorem mk_pow (i j : Int) (h : CPow i j) : Makes K S (tOp (rI CPow fun i j => .int (i ^ j.toNat)) (tC (.int i)) (tC (.int j))) (.int (i ^ j.toNat)) := fun σ H Q _ q => ⟨i, j, rfl, rfl, h, q _ H (Same.refl H) (.int _)⟩
end
end Kx
namespace K05
open PySem PySem.Spec PyProof.Rows L2 Kx
def odd1 : List PyData := [.none, .bool true, .bool false, .int 0, .int 1, .int (-7), .int (10 ^ (59 : Int).toNat), .str "", .str "A", .str "a1", .str "a b", .str "abcdefghi", .str "a(b)", .tuple [], .list [], .dict [], .list [.str "a"]]
def odd2 : List PyData := [.tuple [.str "a", .str "b"], .tuple [.str "a", .tuple []], .tuple [.str ""], .tuple [.str "A"], .tuple [.str "abcdefghi"], .tuple [.tuple [.str "a"]], .tuple [.str "a", .list [.str "b"]]]
def odd3 : List PyData := [.tuple [.str "f", .tuple [.str "a"], .tuple [.str "b"], .tuple [.str "c"], .tuple [.str "d"]], .tuple [.str "f", .tuple [.str "f"]], .tuple [.str "g", .tuple [.str "a"], .tuple [.str "g"]]]
def odd4 : List PyData := [.tuple [.str "a", .none], .tuple [.int 1], .list [.tuple [.str "a"]], .dict [(.str "a", .int 1)]]
def odds : List PyData := odd1 ++ odd2 ++ odd3 ++ odd4
mutual
/-- how many tuples -/
def wD : PyData → Nat
  | .tuple ds => wAll ds + 1
  | _ => 0
def wAll : List PyData → Nat
  | [] => 0
  | d :: ds => wD d + wAll ds
end
/-- what the tests of the law need of a value -/
structure Mild (d : PyData) (k w l : Nat) : Prop where
  short : shortD d = true
  sw : d.showable = true
  dl : d.hasDict = true → noL d = true
  dp : d.depth ≤ k
  wd : wD d ≤ w
  ln : d.shown.length ≤ l
theorem odds_mild : ∀ d, d ∈ odds → Mild d 3 5 100 := by
  have e : (odds.all fun d => shortD d && d.showable && (!d.hasDict || noL d) && decide (d.depth ≤ 3) && decide (wD d ≤ 5) && decide (d.shown.length ≤ 100)) = true := by decide +kernel
  intro d hd
  have z := List.all_eq_true.mp e d hd
  simp only [Bool.and_eq_true, Bool.or_eq_true, Bool.not_eq_true', decide_eq_true_eq] at z
  obtain ⟨⟨⟨⟨⟨h1, h2⟩, h3⟩, h4⟩, h5⟩, h6⟩ := z
  refine ⟨h1, h2, fun e => ?_, h4, h5, h6⟩
  rcases h3 with h3 | h3
  · rw [e] at h3
    cases h3
  · exact h3
section
variable {P : Program} {w : World} {K : PySem.W.Frag} {mg : Str → Option Value} {base : Heap}
def spOdd (K : PySem.W.Frag) : Sp := fun vs H Q _ => ∃ (a : Addr) (n : Nat) (S : List Addr), vs = [.ref a] ∧ Dice H a n ∧ n + 1 < cap ∧ a ∈ S ∧ Olds S H ∧
  ∀ (x : V) (d : PyData) H', But a H H' → Dice H' a (n + 1) → Dx K (OffS S H') x d → d ∈ odds → Q x H'
theorem ok_odd (T : Tx K mg) : FnOk P w K mg base CX0 3 T.a_law_odd T.d_law_odd ["dice"] (spOdd K) := by
  have nd := sc__law_odd.nd
  have G := ok_pick (P := P) (w := w) (base := base) T
  refine T.f_law_odd.ok sc__law_odd (fun vs H Q E h => ?_) (fun cdv A outer s H vs Q E hr h => ?_)
  · obtain ⟨a, n, S, rfl, _⟩ := h
    rfl
  · obtain ⟨a, n, S, rfl, hd, hn, aS, old, q⟩ := h
    refine ⟨_, (pss_cons (ps_set (i := 1) nd rfl (.inl rfl) (pe_lst (pa_cons pe_non (pa_cons pe_bl (pa_cons pe_bl (pa_cons pe_int (pa_cons pe_int (pa_cons (pe_un un_neg pe_int) (pa_cons (pe_op op_pow pe_int pe_int) (pa_cons pe_str (pa_cons pe_str (pa_cons pe_str (pa_cons pe_str (pa_cons pe_str (pa_cons pe_str (pa_cons (pe_tup pa_nil) (pa_cons (pe_lst pa_nil) (pa_cons pe_dnewK (pa_cons (pe_lst (pa_cons pe_str pa_nil)) pa_nil)))))))))))))))))))
      (pss_cons (ps_set (i := 1) nd rfl (.inl rfl) (pe_op op_cat (pv 1) (pe_lst (pa_cons (pe_tup (pa_cons pe_str (pa_cons pe_str pa_nil))) (pa_cons (pe_tup (pa_cons pe_str (pa_cons (pe_tup pa_nil) pa_nil))) (pa_cons (pe_tup (pa_cons pe_str pa_nil)) (pa_cons (pe_tup (pa_cons pe_str pa_nil)) (pa_cons (pe_tup (pa_cons pe_str pa_nil)) (pa_cons (pe_tup (pa_cons (pe_tup (pa_cons pe_str pa_nil)) pa_nil)) (pa_cons (pe_tup (pa_cons pe_str (pa_cons (pe_lst (pa_cons pe_str pa_nil)) pa_nil))) pa_nil))))))))))
      (pss_cons (ps_set (i := 1) nd rfl (.inl rfl) (pe_op op_cat (pv 1) (pe_lst (pa_cons (pe_tup (pa_cons pe_str (pa_cons (pe_tup (pa_cons pe_str pa_nil)) (pa_cons (pe_tup (pa_cons pe_str pa_nil)) (pa_cons (pe_tup (pa_cons pe_str pa_nil)) (pa_cons (pe_tup (pa_cons pe_str pa_nil)) pa_nil)))))) (pa_cons (pe_tup (pa_cons pe_str (pa_cons (pe_tup (pa_cons pe_str pa_nil)) pa_nil))) (pa_cons (pe_tup (pa_cons pe_str (pa_cons (pe_tup (pa_cons pe_str pa_nil)) (pa_cons (pe_tup (pa_cons pe_str pa_nil)) pa_nil)))) pa_nil))))))
      (pss_cons (ps_set (i := 1) nd rfl (.inl rfl) (pe_op op_cat (pv 1) (pe_lst (pa_cons (pe_tup (pa_cons pe_str (pa_cons pe_non pa_nil))) (pa_cons (pe_tup (pa_cons pe_int pa_nil)) (pa_cons (pe_lst (pa_cons (pe_tup (pa_cons pe_str pa_nil)) pa_nil)) (pa_cons (pe_disp (pps_cons pe_str pe_int pps_nil) (by rfl) (by rfl) (fun z => by cases z) (by decide)) pa_nil)))))))
      (pss_one (ps_ret (pe_call G (hr.mono (by decide)) (by rfl) T.g_law_pick T.f_law_pick.kp T.n_law_pick .nil pass0 (pa_cons (pv 0) (pa_cons (pv 1) pa_nil))))))))), ?_⟩
    refine asg_mk (K := K) (S := S) (d := .list odd1) (mk_lst (mk_cons mk_non (mk_cons (mk_bl _) (mk_cons (mk_bl _) (mk_cons (mk_int _) (mk_cons (mk_int _) (mk_cons (mk_neg _) (mk_cons (mk_pow _ _ ⟨by decide, by decide, by decide⟩) (mk_cons (mk_str _) (mk_cons (mk_str _) (mk_cons (mk_str _) (mk_cons (mk_str _) (mk_cons (mk_str _) (mk_cons (mk_str _) (mk_cons (mk_tup mk_nil) (mk_cons (mk_lst mk_nil) (mk_cons mk_dic0 (mk_cons (mk_lst (mk_cons (mk_str _) mk_nil)) mk_nil)))))))))))))))))) old fun x1 H1 s1 d1 => ?_
    refine cat_mk (es := odd2) (rfl : _ = some (some x1)) d1 (mk_lst (mk_cons (mk_tup (mk_cons (mk_str _) (mk_cons (mk_str _) mk_nil))) (mk_cons (mk_tup (mk_cons (mk_str _) (mk_cons (mk_tup mk_nil) mk_nil))) (mk_cons (mk_tup (mk_cons (mk_str _) mk_nil)) (mk_cons (mk_tup (mk_cons (mk_str _) mk_nil)) (mk_cons (mk_tup (mk_cons (mk_str _) mk_nil)) (mk_cons (mk_tup (mk_cons (mk_tup (mk_cons (mk_str _) mk_nil)) mk_nil)) (mk_cons (mk_tup (mk_cons (mk_str _) (mk_cons (mk_lst (mk_cons (mk_str _) mk_nil)) mk_nil))) mk_nil)))))))) (by decide) (old.up s1) fun x2 H2 s2 d2 => ?_
    have s2 := s1.trans s2
    refine cat_mk (es := odd3) (rfl : _ = some (some x2)) d2 (mk_lst (mk_cons (mk_tup (mk_cons (mk_str _) (mk_cons (mk_tup (mk_cons (mk_str _) mk_nil)) (mk_cons (mk_tup (mk_cons (mk_str _) mk_nil)) (mk_cons (mk_tup (mk_cons (mk_str _) mk_nil)) (mk_cons (mk_tup (mk_cons (mk_str _) mk_nil)) mk_nil)))))) (mk_cons (mk_tup (mk_cons (mk_str _) (mk_cons (mk_tup (mk_cons (mk_str _) mk_nil)) mk_nil))) (mk_cons (mk_tup (mk_cons (mk_str _) (mk_cons (mk_tup (mk_cons (mk_str _) mk_nil)) (mk_cons (mk_tup (mk_cons (mk_str _) mk_nil)) mk_nil)))) mk_nil)))) (by decide) (old.up s2) fun x3 H3 s3 d3 => ?_
    have s3 := s2.trans s3
    refine cat_mk (es := odd4) (rfl : _ = some (some x3)) d3 (mk_lst (mk_cons (mk_tup (mk_cons (mk_str _) (mk_cons mk_non mk_nil))) (mk_cons (mk_tup (mk_cons (mk_int _) mk_nil)) (mk_cons (mk_lst (mk_cons (mk_tup (mk_cons (mk_str _) mk_nil)) mk_nil)) (mk_cons (mk_dic1 _ _) mk_nil))))) (by decide) (old.up s3) fun x4 H4 s4 d4 => ?_
    have s4 := s3.trans s4
    cases d4 with
    | @lst b xs _ hb hx =>
    obtain ⟨nb, eb⟩ := OffS.of hb
    have ln := hx.length
    refine ⟨_, rfl, _, rfl, a, b, n, xs, rfl, hd.up s4, by omega, .inl (.inl eb), fun e => nb (by rw [e]; exact aS), by rw [ln]; decide, by rw [ln]; decide, fun i v H' bt dd hi => ?_⟩
    have lt : i < (odd1 ++ odd2 ++ odd3 ++ odd4).length := by
      rw [← ln]
      exact (List.getElem?_eq_some_iff.mp hi).1
    obtain ⟨v2, hv, dv⟩ := hx.get (List.getElem?_eq_getElem lt)
    rw [hi] at hv
    cases hv
    refine q v _ H' ((But.of s4).trans bt) dd (dv.up fun c o hc => ?_) (List.getElem_mem lt)
    obtain ⟨nc, hc⟩ := OffS.of hc
    exact OffS.out nc (bt c o hc (fun e => nc (by rw [e]; exact aS)))
end
end K05
/-! xs.count(y), flat items. -/
namespace Kx
open PySem PySem.Spec PyProof.Rows L2
def rCountF (K : PySem.W.Frag) : V → List V → Hp → VK → Prop := fun x xs H Q => ∃ (a : Addr) (ys : List V) (y : V), x = .ref a ∧ xs = [y] ∧ SqL K H a ys ∧ flatV y = true ∧ ys.all flatV = true ∧ Q (.int ((ys.countP fun z => eqV z y : Nat) : Int)) H
theorem count_eqU {x : V} : ∀ {xs : List V} {us : List Value}, Vals xs us → xs.all flatV = true → us.countP (eqU x) = xs.countP fun y => eqV y x
  | _, _, .nil, _ => rfl
  | y :: xs, u :: us, .cons r t, f => by
    rw [List.all_cons, Bool.and_eq_true] at f
    rw [List.countP_cons, List.countP_cons, count_eqU t f.2, eqU_of r f.1]
theorem mt_countF {X : Cx} : MtR X "list.count" (rCountF X.K) := by
  intro pins s σ H x xs v us Q I rx rxs h
  obtain ⟨p, ys, y, rfl, rfl, hs, fy, fys, q⟩ := h
  cases rx
  obtain ⟨u, rfl, ru⟩ := rxs.one
  obtain ⟨its, rv, ⟨⟨cls, dd, data, sl⟩, n, ho, hc, hdn, hd⟩, hlen⟩ := I.list hs
  simp only at hc hd
  subst hc hd
  refine call_meets PySem.F.slot_list_count ⟨_, ho, rfl⟩ PySem.F.entry_list_count (PySem.F.args_list_count_2 _ _)
    (SeqAt.list_countAt p its.toArray n dd sl u (eqU y)) ⟨ho, fun u' hu' => mem_eqAt ru fy rv fys u' (by simpa using hu'), ?_⟩
  have ec : its.toArray.toList.countP (eqU y) = ys.countP fun z => eqV z y := count_eqU rv fys
  refine ⟨.int ((ys.countP fun z => eqV z y : Nat) : Int), H, I.tok _, ⟨s.toks, ?_⟩, q⟩
  show Value.int ((its.toArray.toList.countP (eqU y) : Nat) : Int) s.toks = Value.int ((ys.countP (fun z => eqV z y) : Nat) : Int) s.toks
  rw [ec]
end Kx
/-! A lambda handed to a def that tells by two except clauses. -/
namespace Kx
open PySem PySem.Spec PyProof.Rows L2 LamX
theorem takes00 {X : Cx} : Takes X (fun _ _ _ _ => False) := LamX.takes0
def Told2 (K : PySem.W.Frag) (C1 C2 : Addr) (r1 r2 : Str) (Q : VK) : XK := fun cls _ H' =>
  ∃ b, PySem.W.exmOne K cls (.ref C1) = some b ∧ (b = true → Q (.str r1) H') ∧ (b = false → ∃ b2, PySem.W.exmOne K cls (.ref C2) = some b2 ∧ (b2 = true → Q (.str r2) H') ∧ (b2 = false → False))
def TTold2 (K : PySem.W.Frag) (C1 C2 : Addr) (r1 r2 : Str) : (XK → Hp → VK → Prop) → Hp → VK → Prop := fun tl H Q => tl (Told2 K C1 C2 r1 r2 Q) H Q
theorem told_gives2 {X : Cx} {Ng : List Str} {x a e1 e2 q r1 r2 : Str} {sg : Scope} {g C1 C2 : Addr} {cdg : Value} {j1 j2 : Nat} {p1 p2 p3 p4 p5 p6 p7 p8 p9 p10 p11 p12 : Pos}
    (hg1 : sg.names.lookup e1 = some .globalImplicit) (hm1 : X.mg e1 = some (.ref C1)) (hd1 : (e1 == ("__debug__" : Str)) = false)
    (hg2 : sg.names.lookup e2 = some .globalImplicit) (hm2 : X.mg e2 = some (.ref C2)) (hd2 : (e2 == ("__debug__" : Str)) = false) (h0 : ∀ f : Addr, (L2.start Ng [V.ref f])[0]? = some (some (V.ref f))) :
    GivesTo X Ng x sg g cdg [.Try [.Return (some (.Call (.Name a p1) [] [] p2)) p3] [.ExceptHandler (some (.Name e1 p4)) none [.Return (some (.Constant (.str r1) j1 p5)) p6] p7, .ExceptHandler (some (.Name e2 p9)) none [.Return (some (.Constant (.str r2) j2 p10)) p11] p12] [] [] p8] a q (TTold2 X.K C1 C2 r1 r2) := by
  intro f c' s H Q tl act hc h
  have gl1 : Gl (cxOf C8.CX0 X.prog X.w X.K X.mg X.base Ng x sg g cdg X.A X.stack s H C8.E0).nox e1 := hg1
  have gl2 : Gl (cxOf C8.CX0 X.prog X.w X.K X.mg X.base Ng x sg g cdg X.A X.stack s H C8.E0).nox e2 := hg2
  refine ⟨_, pss_one (ps_try_many (X := (cxOf C8.CX0 X.prog X.w X.K X.mg X.base Ng x sg g cdg X.A X.stack s H C8.E0).nox)
      (tb := fun W D σ H => ∃ Ech : XK, (∀ cls d σ' H', Ech cls d H' → W cls d σ' H') ∧ σ[0]? = some (some (.ref f)) ∧ H c' = some (CodeO c' q) ∧ tl Ech H D.rt)
      rfl rfl takes00 (fun W pn xe tk _ => ?_) (.cons ⟨gl1, hd1, .inl hm1⟩ (fun a oe cls d pn _ _ => pss_one (ps_ret pe_str)) (.cons ⟨gl2, hd2, .inl hm2⟩ (fun a oe cls d pn _ _ => pss_one (ps_ret pe_str)) .nil))), ?_⟩
  · refine ⟨fun pins s' σ H' D I h' => ?_⟩
    obtain ⟨Ech, hW, h1, h2, h3⟩ := h'
    have hp := act W pn xe Ech p1 p2 tk hW
    have hq := pss_one (ps_ret (pos := p3) hp)
    exact hq.run pins s' σ H' D I ⟨h1, h2, h3⟩
  · refine ⟨Told2 X.K C1 C2 r1 r2 Q, fun cls d σ' H' ⟨b, e1, q1, q2⟩ => ⟨b, e1, fun hb a _ => q1 hb, fun hb => ?_⟩, h0 f, hc, h⟩
    obtain ⟨b2, e2, z1, z2⟩ := q2 hb
    exact ⟨b2, e2, fun hb a _ => z1 hb, fun hb => z2 hb⟩
end Kx
/-! What an error is told as. -/
namespace Kx
open PySem PySem.Spec PyProof.Rows L2 LamX
theorem takes_len {X : Cx} {W : WX} (t : Takes X W) : Takes X (fun cls d σ H => σ.length = X.N.length → W cls d σ H) := fun u s' ⟨a, B, sI, pins, σ, H, cls, d, e, I, nb, up, sky, na, os, ag, w⟩ =>
  t u s' ⟨a, B, sI, pins, σ, H, cls, d, e, I, nb, up, sky, na, os, ag, w I.len⟩
theorem pss_guard {X : Cx} {b : List Stmt} {p : Prop} {t : TS} (h : p → PSs X b t) : PSs X b (fun D σ H => p ∧ t D σ H) := ⟨fun pins s σ H D I h' => (h h'.1).run pins s σ H D I h'.2⟩
theorem pe_bmK {X : Cx} {K : PySem.W.Frag} (hK : X.K = K) {T : String} {name : Str} {id : String} {r : V → List V → Hp → VK → Prop} {o e : Expr} {es : List Expr} {to : TE} {t : TA} {apos cpos : Pos} (pa : PlainAttrs T) (slot : Slot T name id) (hty : typeOf (.builtin id) = pure (.type "method_descriptor")) (hm : MtR X id r) (ho : PE X o to) (ha : PA X (e :: es) t)
    (hbase : attributeBase o name X.env (eval o X.env) = eval o X.env := by rfl)
    (hfew : ((backTo cpos (starEach (e :: es) X.env)).all (fun x => !x.1) && (backToKw cpos (keywordEach [] X.env)).all (fun x => x.1.isSome)
      && decide ((e :: es).length + ([] : List Keyword).length + (if ([] : List Keyword).isEmpty then 0 else 1) < 30)) = true := by rfl)
    (hline : (apos.endLine == cpos.line) = true := by rfl) (hs : starEach (e :: es) X.env = (false, eval e X.env) :: starEach es X.env := by rfl) (hplain : (backTo cpos (starEach es X.env)).any (·.1) = false := by rfl) :
    PE X (.Call (.Attribute o name apos) (e :: es) [] cpos) (tBM K T r to t) := by
  subst hK
  exact pe_bm pa slot hty hm ho ha hbase hfew hline hs hplain
theorem pss_false {X : Cx} {b : List Stmt} : PSs X b (fun _ _ _ => False) := ⟨fun pins s σ H D I h => h.elim⟩
end Kx
namespace K05
open PySem PySem.Spec PyProof.Rows L2 Kx LamX
section
variable {K : PySem.W.Frag} {mg : Str → Option Value}
def cls (T : Tx K mg) : List Addr := [T.CInvalidName, T.CInvalidTerm, T.CInvalidOperation, T.CInvalidFact, T.CInvalidBook, T.CInvalidWorld, T.CInvalidCode, T.CInvalidEdit, T.CParseError, T.CInvalidCommand]
/-- of which of the classes an error of the class D is -/
def row (K : PySem.W.Frag) (cs : List Addr) (D : Addr) : List (Option Bool) := cs.map fun C => PySem.W.kitOne K (.ref D) (.ref C)
def one (j : Nat) : List (Option Bool) := (List.range 10).map fun i => some (decide (i = j))
structure Kinds (T : Tx K mg) : Prop where
  pN : PySem.W.exmOne K (.ref T.CInvalidName) (.ref T.CPartError) = some true
  pT : PySem.W.exmOne K (.ref T.CInvalidTerm) (.ref T.CPartError) = some true
  pO : PySem.W.exmOne K (.ref T.CInvalidOperation) (.ref T.CPartError) = some true
  xN : ExcC K T.CInvalidName
  xT : ExcC K T.CInvalidTerm
  xO : ExcC K T.CInvalidOperation
  rN : row K (cls T) T.CInvalidName = one 0
  rT : row K (cls T) T.CInvalidTerm = one 1
  rO : row K (cls T) T.CInvalidOperation = one 2
def ERaised (T : Tx K mg) (Q : VK) : XK := fun c d H => d = none ∧ ∃ (D : Addr) (j : Nat) (w : Str), c = .ref D ∧ [(T.CInvalidName, 0, ("name" : Str)), (T.CInvalidTerm, 1, ("term" : Str)), (T.CInvalidOperation, 2, ("operation" : Str))][j]? = some (D, j, w) ∧ ∀ H', Same H H' → Q (.str w) H'
def TRaised (T : Tx K mg) : (XK → Hp → VK → Prop) → Hp → VK → Prop := fun tl H Q => tl (ERaised T Q) H fun _ H' => Q (.str "returned") H'
end
def suiteOf : List Stmt → List Stmt
  | [.Try _ [.ExceptHandler _ _ b _] _ _ _, _] => b
  | _ => []
abbrev Zx (X : Cx) (g : Addr) (cdg : Value) (s : Shared) (H : Hp) : Cx := (cxOf C8.CX0 X.prog X.w X.K X.mg X.base N__law_raised "_law_raised" (defScope s__law_raised) g cdg X.A X.stack s H C8.E0).nox
theorem suite_ex {X : Cx} (T : Tx X.K X.mg) (g : Addr) (cdg : Value) (s : Shared) (H : Hp) (a D : Addr) : ∃ t : TS,
    (∀ (oe : Obj) (pn : List (Addr × Obj)), ExcC X.K D → Zc (.ref D) none oe → (∃ vs, oe.data = .fields vs) → PSs ((Zx X g cdg s H).suite a ((a, oe) :: pn)) (suiteOf (defBody s__law_raised)) t) ∧
    ∀ (j : Nat) (w : Str) (E : Ends) (y0 y2 y3 : Option V) (H : Hp), row X.K (cls T) D = one j → j < 3 → [("name" : Str), "term", "operation"][j]? = some w → (∀ H', Same H H' → E.rt (.str w) H') → t E [y0, some (.ref a), y2, y3] H := by
  have nd := sc__law_raised.nd
  apply Exists.intro
  constructor
  intro oe pn xC hz hf
  exact (pss_cons (ps_set (i := 2) nd rfl (.inl rfl) (pe_lst (pa_cons (pe_callB (call_isE xC hz hf) (by rfl) T.b_isinstance (by decide +kernel) (pa_cons (pv 1) (pa_cons (pe_glob (v := .ref T.CInvalidName) (by rfl) T.gInvalidName rfl) pa_nil))) (pa_cons (pe_callB (call_isE xC hz hf) (by rfl) T.b_isinstance (by decide +kernel) (pa_cons (pv 1) (pa_cons (pe_glob (v := .ref T.CInvalidTerm) (by rfl) T.gInvalidTerm rfl) pa_nil))) pa_nil))))
      (pss_cons (ps_set (i := 2) nd rfl (.inl rfl) (pe_op op_cat (pv 2) (pe_lst (pa_cons (pe_callB (call_isE xC hz hf) (by rfl) T.b_isinstance (by decide +kernel) (pa_cons (pv 1) (pa_cons (pe_glob (v := .ref T.CInvalidOperation) (by rfl) T.gInvalidOperation rfl) pa_nil))) (pa_cons (pe_callB (call_isE xC hz hf) (by rfl) T.b_isinstance (by decide +kernel) (pa_cons (pv 1) (pa_cons (pe_glob (v := .ref T.CInvalidFact) (by rfl) T.gInvalidFact rfl) pa_nil))) pa_nil)))))
      (pss_cons (ps_set (i := 2) nd rfl (.inl rfl) (pe_op op_cat (pv 2) (pe_lst (pa_cons (pe_callB (call_isE xC hz hf) (by rfl) T.b_isinstance (by decide +kernel) (pa_cons (pv 1) (pa_cons (pe_glob (v := .ref T.CInvalidBook) (by rfl) T.gInvalidBook rfl) pa_nil))) (pa_cons (pe_callB (call_isE xC hz hf) (by rfl) T.b_isinstance (by decide +kernel) (pa_cons (pv 1) (pa_cons (pe_glob (v := .ref T.CInvalidWorld) (by rfl) T.gInvalidWorld rfl) pa_nil))) pa_nil)))))
      (pss_cons (ps_set (i := 2) nd rfl (.inl rfl) (pe_op op_cat (pv 2) (pe_lst (pa_cons (pe_callB (call_isE xC hz hf) (by rfl) T.b_isinstance (by decide +kernel) (pa_cons (pv 1) (pa_cons (pe_glob (v := .ref T.CInvalidCode) (by rfl) T.gInvalidCode rfl) pa_nil))) (pa_cons (pe_callB (call_isE xC hz hf) (by rfl) T.b_isinstance (by decide +kernel) (pa_cons (pv 1) (pa_cons (pe_glob (v := .ref T.CInvalidEdit) (by rfl) T.gInvalidEdit rfl) pa_nil))) pa_nil)))))
      (pss_cons (ps_set (i := 2) nd rfl (.inl rfl) (pe_op op_cat (pv 2) (pe_lst (pa_cons (pe_callB (call_isE xC hz hf) (by rfl) T.b_isinstance (by decide +kernel) (pa_cons (pv 1) (pa_cons (pe_glob (v := .ref T.CParseError) (by rfl) T.gParseError rfl) pa_nil))) (pa_cons (pe_callB (call_isE xC hz hf) (by rfl) T.b_isinstance (by decide +kernel) (pa_cons (pv 1) (pa_cons (pe_glob (v := .ref T.CInvalidCommand) (by rfl) T.gInvalidCommand rfl) pa_nil))) pa_nil)))))
      (pss_cons (ps_set (i := 3) nd rfl (.inl rfl) (pe_op op_cat (pe_lst (pa_cons pe_str (pa_cons pe_str (pa_cons pe_str pa_nil)))) (pe_op op_rep (pe_lst (pa_cons pe_str pa_nil)) pe_int)))
      (pss_one (ps_ret (pe_ifExp (pt_cmpR op_eq (pe_bmK (X := (Zx X g cdg s H).suite a ((a, oe) :: pn)) (K := X.K) rfl PySem.F.plainAttrs_list PySem.F.slot_list_count PySem.F.type_list_count (r := rCountF X.K) mt_countF (pv 2) (pa_cons pe_bl pa_nil)) pe_int (nomark _)) (pe_ix (r := rIxL X.K) ix_list (pv 3) (pe_bmK (X := (Zx X g cdg s H).suite a ((a, oe) :: pn)) (K := X.K) rfl PySem.F.plainAttrs_list PySem.F.slot_list_index PySem.F.type_list_index (r := rIndex X.K) mt_index (pv 2) (pa_cons pe_bl pa_nil)) (fun _ _ => rfl)) pe_str)))))))))
  intro j w E y0 y2 y3 H hr hj hw q
  have hr' : [PySem.W.kitOne X.K (.ref D) (.ref T.CInvalidName), PySem.W.kitOne X.K (.ref D) (.ref T.CInvalidTerm), PySem.W.kitOne X.K (.ref D) (.ref T.CInvalidOperation), PySem.W.kitOne X.K (.ref D) (.ref T.CInvalidFact), PySem.W.kitOne X.K (.ref D) (.ref T.CInvalidBook), PySem.W.kitOne X.K (.ref D) (.ref T.CInvalidWorld), PySem.W.kitOne X.K (.ref D) (.ref T.CInvalidCode), PySem.W.kitOne X.K (.ref D) (.ref T.CInvalidEdit), PySem.W.kitOne X.K (.ref D) (.ref T.CParseError), PySem.W.kitOne X.K (.ref D) (.ref T.CInvalidCommand)] =
      [some (decide (0 = j)), some (decide (1 = j)), some (decide (2 = j)), some (decide (3 = j)), some (decide (4 = j)), some (decide (5 = j)), some (decide (6 = j)), some (decide (7 = j)), some (decide (8 = j)), some (decide (9 = j))] := hr
  simp only [List.cons.injEq] at hr'
  obtain ⟨k0, k1, k2, k3, k4, k5, k6, k7, k8, k9, _⟩ := hr'
  refine ⟨_, rfl, _, _, _, rfl, fun u r => r, k0, _, rfl, _, _, _, rfl, fun u r => r, k1, (by show 2 ≤ sizeLine; decide), fun l1 nl1 => ?_⟩
  have s1 := same_put (o := .lst [.bl (decide (0 = j)), .bl (decide (1 = j))]) nl1
  have e1 : (upd H l1 (.lst [.bl (decide (0 = j)), .bl (decide (1 = j))])) l1 = some (.lst [.bl (decide (0 = j)), .bl (decide (1 = j))]) := upd_same
  generalize upd H l1 (.lst [.bl (decide (0 = j)), .bl (decide (1 = j))]) = H1 at s1 e1 ⊢
  refine ⟨_, rfl, _, rfl, _, _, _, rfl, fun u r => r, k2, _, rfl, _, _, _, rfl, fun u r => r, k3, (by show 2 ≤ sizeLine; decide), fun d1 nd1 => ?_⟩
  have sd1 := same_put (o := .lst [.bl (decide (2 = j)), .bl (decide (3 = j))]) nd1
  refine ⟨l1, d1, _, _, rfl, rfl, sd1 _ _ e1, upd_same, (by show 2 + 2 ≤ sizeLine; decide), fun l2 nl2 => ?_⟩
  have s2 := s1.trans (sd1.trans (same_put (o := .lst ([.bl (decide (0 = j)), .bl (decide (1 = j))] ++ [.bl (decide (2 = j)), .bl (decide (3 = j))])) nl2))
  have e2 : (upd (upd H1 d1 (.lst [.bl (decide (2 = j)), .bl (decide (3 = j))])) l2 (.lst ([.bl (decide (0 = j)), .bl (decide (1 = j))] ++ [.bl (decide (2 = j)), .bl (decide (3 = j))]))) l2 = some (.lst [.bl (decide (0 = j)), .bl (decide (1 = j)), .bl (decide (2 = j)), .bl (decide (3 = j))]) := upd_same
  generalize upd (upd H1 d1 (.lst [.bl (decide (2 = j)), .bl (decide (3 = j))])) l2 (.lst ([.bl (decide (0 = j)), .bl (decide (1 = j))] ++ [.bl (decide (2 = j)), .bl (decide (3 = j))])) = H2 at s2 e2 ⊢
  refine ⟨_, rfl, _, rfl, _, _, _, rfl, fun u r => r, k4, _, rfl, _, _, _, rfl, fun u r => r, k5, (by show 2 ≤ sizeLine; decide), fun d2 nd2 => ?_⟩
  have sd2 := same_put (o := .lst [.bl (decide (4 = j)), .bl (decide (5 = j))]) nd2
  refine ⟨l2, d2, _, _, rfl, rfl, sd2 _ _ e2, upd_same, (by show 4 + 2 ≤ sizeLine; decide), fun l3 nl3 => ?_⟩
  have s3 := s2.trans (sd2.trans (same_put (o := .lst ([.bl (decide (0 = j)), .bl (decide (1 = j)), .bl (decide (2 = j)), .bl (decide (3 = j))] ++ [.bl (decide (4 = j)), .bl (decide (5 = j))])) nl3))
  have e3 : (upd (upd H2 d2 (.lst [.bl (decide (4 = j)), .bl (decide (5 = j))])) l3 (.lst ([.bl (decide (0 = j)), .bl (decide (1 = j)), .bl (decide (2 = j)), .bl (decide (3 = j))] ++ [.bl (decide (4 = j)), .bl (decide (5 = j))]))) l3 = some (.lst [.bl (decide (0 = j)), .bl (decide (1 = j)), .bl (decide (2 = j)), .bl (decide (3 = j)), .bl (decide (4 = j)), .bl (decide (5 = j))]) := upd_same
  generalize upd (upd H2 d2 (.lst [.bl (decide (4 = j)), .bl (decide (5 = j))])) l3 (.lst ([.bl (decide (0 = j)), .bl (decide (1 = j)), .bl (decide (2 = j)), .bl (decide (3 = j))] ++ [.bl (decide (4 = j)), .bl (decide (5 = j))])) = H3 at s3 e3 ⊢
  refine ⟨_, rfl, _, rfl, _, _, _, rfl, fun u r => r, k6, _, rfl, _, _, _, rfl, fun u r => r, k7, (by show 2 ≤ sizeLine; decide), fun d3 nd3 => ?_⟩
  have sd3 := same_put (o := .lst [.bl (decide (6 = j)), .bl (decide (7 = j))]) nd3
  refine ⟨l3, d3, _, _, rfl, rfl, sd3 _ _ e3, upd_same, (by show 6 + 2 ≤ sizeLine; decide), fun l4 nl4 => ?_⟩
  have s4 := s3.trans (sd3.trans (same_put (o := .lst ([.bl (decide (0 = j)), .bl (decide (1 = j)), .bl (decide (2 = j)), .bl (decide (3 = j)), .bl (decide (4 = j)), .bl (decide (5 = j))] ++ [.bl (decide (6 = j)), .bl (decide (7 = j))])) nl4))
  have e4 : (upd (upd H3 d3 (.lst [.bl (decide (6 = j)), .bl (decide (7 = j))])) l4 (.lst ([.bl (decide (0 = j)), .bl (decide (1 = j)), .bl (decide (2 = j)), .bl (decide (3 = j)), .bl (decide (4 = j)), .bl (decide (5 = j))] ++ [.bl (decide (6 = j)), .bl (decide (7 = j))]))) l4 = some (.lst [.bl (decide (0 = j)), .bl (decide (1 = j)), .bl (decide (2 = j)), .bl (decide (3 = j)), .bl (decide (4 = j)), .bl (decide (5 = j)), .bl (decide (6 = j)), .bl (decide (7 = j))]) := upd_same
  generalize upd (upd H3 d3 (.lst [.bl (decide (6 = j)), .bl (decide (7 = j))])) l4 (.lst ([.bl (decide (0 = j)), .bl (decide (1 = j)), .bl (decide (2 = j)), .bl (decide (3 = j)), .bl (decide (4 = j)), .bl (decide (5 = j))] ++ [.bl (decide (6 = j)), .bl (decide (7 = j))])) = H4 at s4 e4 ⊢
  refine ⟨_, rfl, _, rfl, _, _, _, rfl, fun u r => r, k8, _, rfl, _, _, _, rfl, fun u r => r, k9, (by show 2 ≤ sizeLine; decide), fun d4 nd4 => ?_⟩
  have sd4 := same_put (o := .lst [.bl (decide (8 = j)), .bl (decide (9 = j))]) nd4
  refine ⟨l4, d4, _, _, rfl, rfl, sd4 _ _ e4, upd_same, (by show 8 + 2 ≤ sizeLine; decide), fun l5 nl5 => ?_⟩
  have s5 := s4.trans (sd4.trans (same_put (o := .lst ([.bl (decide (0 = j)), .bl (decide (1 = j)), .bl (decide (2 = j)), .bl (decide (3 = j)), .bl (decide (4 = j)), .bl (decide (5 = j)), .bl (decide (6 = j)), .bl (decide (7 = j))] ++ [.bl (decide (8 = j)), .bl (decide (9 = j))])) nl5))
  have e5 : (upd (upd H4 d4 (.lst [.bl (decide (8 = j)), .bl (decide (9 = j))])) l5 (.lst ([.bl (decide (0 = j)), .bl (decide (1 = j)), .bl (decide (2 = j)), .bl (decide (3 = j)), .bl (decide (4 = j)), .bl (decide (5 = j)), .bl (decide (6 = j)), .bl (decide (7 = j))] ++ [.bl (decide (8 = j)), .bl (decide (9 = j))]))) l5 = some (.lst [.bl (decide (0 = j)), .bl (decide (1 = j)), .bl (decide (2 = j)), .bl (decide (3 = j)), .bl (decide (4 = j)), .bl (decide (5 = j)), .bl (decide (6 = j)), .bl (decide (7 = j)), .bl (decide (8 = j)), .bl (decide (9 = j))]) := upd_same
  generalize upd (upd H4 d4 (.lst [.bl (decide (8 = j)), .bl (decide (9 = j))])) l5 (.lst ([.bl (decide (0 = j)), .bl (decide (1 = j)), .bl (decide (2 = j)), .bl (decide (3 = j)), .bl (decide (4 = j)), .bl (decide (5 = j)), .bl (decide (6 = j)), .bl (decide (7 = j))] ++ [.bl (decide (8 = j)), .bl (decide (9 = j))])) = H5 at s5 e5 ⊢
  refine ⟨(by show 3 ≤ sizeLine; decide), fun w1 nw1 => ?_⟩
  have sw1 := same_put (o := .lst [.str "name", .str "term", .str "operation"]) nw1
  have ew1 : (upd H5 w1 (.lst [.str "name", .str "term", .str "operation"])) w1 = some (.lst [.str "name", .str "term", .str "operation"]) := upd_same
  generalize upd H5 w1 (.lst [.str "name", .str "term", .str "operation"]) = H6 at sw1 ew1 ⊢
  refine ⟨(by show 1 ≤ sizeLine; decide), fun w2 nw2 => ?_⟩
  have sw2 := same_put (o := .lst [.str "other"]) nw2
  have ew2 : (upd H6 w2 (.lst [.str "other"])) w2 = some (.lst [.str "other"]) := upd_same
  generalize upd H6 w2 (.lst [.str "other"]) = H7 at sw2 ew2 ⊢
  refine ⟨w2, 7, _, rfl, rfl, ew2, by decide, by decide, (by show 1 * 7 ≤ sizeLine; decide), fun w3 nw3 => ?_⟩
  have sw3 := same_put (o := .lst (List.replicate (7 : Int).toNat [.str "other"]).flatten) nw3
  have ew3 : (upd H7 w3 (.lst (List.replicate (7 : Int).toNat [.str "other"]).flatten)) w3 = some (.lst (List.replicate 7 (.str "other"))) := upd_same
  generalize upd H7 w3 (.lst (List.replicate (7 : Int).toNat [.str "other"]).flatten) = H8 at sw3 ew3 ⊢
  refine ⟨w1, w3, _, _, rfl, rfl, sw3 _ _ (sw2 _ _ ew1), ew3, (by show 3 + 7 ≤ sizeLine; decide), fun w4 nw4 => ?_⟩
  have sw4 := same_put (o := .lst ([.str "name", .str "term", .str "operation"] ++ List.replicate 7 (.str "other"))) nw4
  have ew4 : (upd H8 w4 (.lst ([.str "name", .str "term", .str "operation"] ++ List.replicate 7 (.str "other")))) w4 = some (.lst ([.str "name", .str "term", .str "operation"] ++ List.replicate 7 (.str "other"))) := upd_same
  generalize upd H8 w4 (.lst ([.str "name", .str "term", .str "operation"] ++ List.replicate 7 (.str "other"))) = H9 at sw4 ew4 ⊢
  have up := sw1.trans (sw2.trans (sw3.trans sw4))
  have e9 := up _ _ e5
  have s9 := s5.trans up
  have hj3 : j = 0 ∨ j = 1 ∨ j = 2 := by omega
  rcases hj3 with rfl | rfl | rfl
  · cases hw
    refine ⟨_, rfl, .inl ⟨rfl, _, SqL.of e9⟩, l5, _, _, rfl, rfl, SqL.of e9, rfl, rfl, rfl, _, rfl, iteT ?_⟩
    exact ⟨_, rfl, _, rfl, .inl ⟨rfl, _, SqL.of e9⟩, l5, _, _, 0, _, rfl, rfl, SqL.of e9, rfl, rfl, rfl, rfl, (fun m z hm => by omega), w4, _, 0, _, rfl, rfl, SqL.of ew4, atI_nat (j := 0) rfl, q _ s9⟩
  · cases hw
    refine ⟨_, rfl, .inl ⟨rfl, _, SqL.of e9⟩, l5, _, _, rfl, rfl, SqL.of e9, rfl, rfl, rfl, _, rfl, iteT ?_⟩
    exact ⟨_, rfl, _, rfl, .inl ⟨rfl, _, SqL.of e9⟩, l5, _, _, 1, _, rfl, rfl, SqL.of e9, rfl, rfl, rfl, rfl, (fun m z hm h => by
      obtain rfl : m = 0 := by omega
      cases h
      rfl), w4, _, 1, _, rfl, rfl, SqL.of ew4, atI_nat (j := 1) rfl, q _ s9⟩
  · cases hw
    refine ⟨_, rfl, .inl ⟨rfl, _, SqL.of e9⟩, l5, _, _, rfl, rfl, SqL.of e9, rfl, rfl, rfl, _, rfl, iteT ?_⟩
    exact ⟨_, rfl, _, rfl, .inl ⟨rfl, _, SqL.of e9⟩, l5, _, _, 2, _, rfl, rfl, SqL.of e9, rfl, rfl, rfl, rfl, (fun m z hm h => by
      obtain rfl | rfl : m = 0 ∨ m = 1 := by omega
      · cases h
        rfl
      · cases h
        rfl), w4, _, 2, _, rfl, rfl, SqL.of ew4, atI_nat (j := 2) rfl, q _ s9⟩
theorem raised_gives {X : Cx} (T : Tx X.K X.mg) (Y : Kinds T) {q : Str} {g : Addr} {cdg : Value} : GivesTo X N__law_raised "_law_raised" (defScope s__law_raised) g cdg (defBody s__law_raised) "call" q (TRaised T) := by
  intro f c' s H Q tl act hc h
  have nd := sc__law_raised.nd
  refine ⟨_, pss_cons (ps_try_as (X := Zx X g cdg s H) (i := 1) (c := .ref T.CPartError)
      (ts := fun a c d => match c, d with | .ref D, none => fun E σ H2 => ExcC X.K D ∧ (suite_ex T g cdg s H a D).choose E σ H2 | _, _ => fun _ _ _ => False)
      (tb := fun W D σ H => ∃ Ech : XK, (∀ c d σ' H', σ'.length = 4 → Ech c d H' → W c d σ' H') ∧ σ[0]? = some (some (.ref f)) ∧ H c' = some (CodeO c' q) ∧ tl Ech H (fun _ H' => D.nx σ H'))
      rfl rfl nd rfl rfl ⟨by rfl, by decide, .inl T.gPartError⟩ takes00 (fun W pn xe tk _ => ?_) (fun a oe c d pn hz hf => ?_)) (pss_one (ps_ret pe_str)), ?_⟩
  · refine ⟨fun pins s' σ H' D I h' => ?_⟩
    obtain ⟨Ech, hW, h1, h2, h3⟩ := h'
    exact (pss_one (ps_expr (act (fun c d σ H => σ.length = 4 → W c d σ H) pn xe Ech _ _ (takes_len tk) (fun c d σ' H' e l => hW c d σ' H' l e)))).run pins s' σ H' D I ⟨h1, h2, h3⟩
  · cases c with
    | ref D =>
      cases d with
      | none =>
        show PSs _ (suiteOf (defBody s__law_raised)) (fun E σ H2 => ExcC X.K D ∧ (suite_ex T g cdg s H a D).choose E σ H2)
        exact pss_guard fun xC => (suite_ex T g cdg s H a D).choose_spec.1 oe pn xC hz hf
      | some _ => exact pss_false
    | _ => exact pss_false
  · refine ⟨ERaised T Q, fun c d σ' H' l e => ?_, rfl, hc, h⟩
    obtain ⟨rfl, D, j, w, rfl, hm, hq⟩ := e
    match σ', l with
    | [y0, y1, y2, y3], _ =>
    have key : ExcC X.K D ∧ row X.K (cls T) D = one j ∧ j < 3 ∧ [("name" : Str), "term", "operation"][j]? = some w ∧ PySem.W.exmOne X.K (.ref D) (.ref T.CPartError) = some true := by
      match j, hm with
      | 0, hm =>
        cases hm
        exact ⟨Y.xN, Y.rN, by decide, rfl, Y.pN⟩
      | 1, hm =>
        cases hm
        exact ⟨Y.xT, Y.rT, by decide, rfl, Y.pT⟩
      | 2, hm =>
        cases hm
        exact ⟨Y.xO, Y.rO, by decide, rfl, Y.pO⟩
      | j + 3, hm => cases hm
    obtain ⟨xC, hr, hj, hw, hp⟩ := key
    exact ⟨true, hp, fun _ a na => ⟨xC, (suite_ex T g cdg s H a D).choose_spec.2 j w _ y0 y2 y3 H' hr hj hw hq⟩, fun z => (nomatch z)⟩
end K05
/-! Defs with str.replace; defs that raise. -/
namespace Kx
open PySem PySem.Spec PyProof.Rows L2 CwR
section
variable {X : Cx} {o e : Expr} {to te : TE} {pos : Pos}
theorem pst_set {i : Nat} {x : Str} {pos' : Pos} (hN : X.N.Nodup) (hi : X.N[i]? = some x) (hx : Loc X.env.scope x) (he : PET X e te) (hs : swapsWith e (some (.Name x pos')) pos.line X.env = pure false := by rfl) (hf : X.fn x = true ∨ X.env.scope.names.lookup x = some .local := by first | exact .inl rfl | exact .inr rfl | assumption) :
    PST X (.Assign [.Name x pos'] e pos) (tAsg te (gName i)) := by
  intro pins s σ H D h0 I h
  refine wpAny_Assign_Name (thn (he pins s σ H _ h0 I h) fun v s1 ⟨y, H1, I1, r1, q1⟩ => ?_) hs
  exact store_ok I1 hN hi hx r1 (fun s2 I2 => ⟨_, H1, I2, q1⟩) hf
theorem pet_m0 {id : String} {name : Str} {apos pos : Pos} {r : V → List V → Hp → VK → Prop} (slot : Slot "str" name id) (ty : typeOf (.builtin id) = pure (.type "method_descriptor")) (rule : MtR X id r) (ho : PET X o to)
    (hbase : attributeBase o name X.env (eval o X.env) = eval o X.env := by rfl) (hline : (apos.endLine == pos.line) = true := by rfl) : PET X (.Call (.Attribute o name apos) [] [] pos) (tM0 r to) := by
  intro pins s σ H Q h0 I h
  refine PySem.Call_method0 hbase hline (thn (ho pins s σ H _ h0 I h) fun v s1 ⟨x, H1, I1, r1, q1⟩ => ?_)
  obtain ⟨⟨a, rfl⟩, q1⟩ := q1
  obtain ⟨t, rfl⟩ := _root_.id r1
  exact ⟨"str", _, F.plainAttrs_str, slot, ty, typeIs_str _ _ _, (fun _ e => nomatch e), Calls.callWith_builtin rfl (PySem.evalArgs_none (rule pins s1 σ H1 _ [] _ [] Q I1 r1 .nil q1))⟩
theorem pet_words {apos pos : Pos} (ho : PET X o to) (hbase : attributeBase o "split" X.env (eval o X.env) = eval o X.env := by rfl) (hline : (apos.endLine == pos.line) = true := by rfl) :
    PET X (.Call (.Attribute o "split" apos) [] [] pos) (tM0 (fun x xs H Q => ∃ a, x = .str a ∧ xs = [] ∧ a.length + 2 ≤ sizeLine ∧ rNewStrs (Txt.words a) H Q) to) :=
  pet_m0 F.slot_str_split F.type_str_split mt_words ho hbase hline
end
section
variable {P : Program} {w : World} {K : PySem.W.Frag} {mg : Str → Option Value} {base : Heap}
/-- a def in which a token is out from the beginning on (it has a parameter) -/
theorem okT {x qual : Str} {st : Stmt} {f : Addr} {fd : FuncData} {N ps : List Str} {k : Nat} {sp : Sp} (F : Fun K x qual st f fd) (S : FnScope N ps (defScope st)) (hnc : ∀ y ∈ (defScope st).names, y.2 ≠ .cell) (hps : 1 ≤ ps.length) (len : ∀ vs H Q E, sp vs H Q E → vs.length = ps.length)
    (hbody : ∀ (cdv : Value) (A : Around) (outer : List Env) (s : Shared) (H : Hp) (vs : List V) (Q : VK) (E : XK), Room k (A.deeper (envOfC qual (defScope st) s.heap.objs.size f cdv)) → sp vs H Q E →
      ∃ t, PSsT (cxOf CX0 P w K mg base N qual (defScope st) f cdv A outer s H E) (defBody st) t ∧ t { nx := fun _ H' => Q .non H', rt := Q } (start N vs) H) : FnOk P w K mg base CX0 (k + 1) f fd ps sp := by
  obtain ⟨oc, od, kV, doc, pm, an, cdv, ct, osl, rfl, lk, hcd⟩ := F.ex
  exact fn_ofT lk hcd S hnc hps len fun A outer s H vs Q E hr h => hbody cdv A outer s H vs Q E hr h
theorem exm_self {S : Addr} (h1 : PySem.W.subIn K (.ref S) (.type "BaseException") = some true) (h2 : PySem.W.isClsIn K S = true) (h3 : PySem.W.typeIn K (.ref S) = some (.type "type")) (h4 : PySem.W.subIn K (.ref S) (.ref S) = some true) :
    PySem.W.exmOne K (.ref S) (.ref S) = some true := by
  have e1 : (PySem.W.subIn K (.ref S) (.type "BaseException") == some true) = true := by rw [h1] <;> rfl
  have e2 : ((PySem.W.clsIn K S).isSome && PySem.W.typeIn K (.ref S) == some (.type "type")) = true := by
    have h2' : (PySem.W.clsIn K S).isSome = true := h2
    rw [h2', h3] <;> rfl
  show (if (PySem.W.subIn K (.ref S) (.type "BaseException") == some true) = true then (if ((PySem.W.clsIn K S).isSome && PySem.W.typeIn K (.ref S) == some (.type "type")) = true then PySem.W.subIn K (.ref S) (.ref S) else none) else none) = some true
  rw [if_pos e1, if_pos e2]
  exact h4
end
end Kx
/-! What the functions raise: terms. -/
namespace K05
open PySem PySem.Spec PyProof.Rows L2 Kx
section
variable {P : Program} {w : World} {K : PySem.W.Frag} {mg : Str → Option Value} {base : Heap}
def spCk (K : PySem.W.Frag) (C : Addr) : Sp := fun vs H Q E => ∃ (x : V) (d : PyData), vs = [x] ∧ Dz K H x d ∧ (termD d = true → ∀ H', Same H H' → Q .non H') ∧ (termD d = false → ∀ H', Same H H' → E (.ref C) none H')
theorem ok_ck (T : Tx K mg) : FnOk P w K mg base (L2.CX P w) 5 T.acheck_term T.dcheck_term ["value"] (spCk K T.CInvalidTerm) := by
  have nd := sc_check_term.nd
  have G := ok_term (P := P) (w := w) (base := base) T
  refine T.fcheck_term.okX sc_check_term (fun vs H Q E h => ?_) (fun cdv A outer s H vs Q E hr h => ?_)
  · obtain ⟨x, d, rfl, _⟩ := h
    rfl
  · obtain ⟨x, d, rfl, hx, q1, q0⟩ := h
    refine ⟨_, (pss_one (ps_if (pt_not (pt_val (pe_call G (hr.mono (by omega)) (by rfl) T.gis_term T.fis_term.kp T.nis_term .nil pass0 (pa_cons (pv 0) pa_nil)))) (pss_one (ps_raise rfl (takes_of rfl rfl rfl rfl) (pmk_own PySem.F.excBase_ValueError T.xInvalidTerm T.gInvalidTerm T.kInvalidTerm (raises_own T.bInvalidTerm T.tInvalidTerm) (by rfl)))) pss_nil)), ?_⟩
    refine ⟨_, rfl, x, d, rfl, hx, fun H' sm => ⟨_, rfl, ?_⟩⟩
    cases t : termD d with
    | false => exact iteT (q0 t H' sm)
    | true => exact iteF (q1 t H' sm)
/-- one argument that is no term -/
def spBad (K : PySem.W.Frag) (C : Addr) : Sp := fun vs H Q E => ∃ (x : V) (d : PyData), vs = [x] ∧ Dz K H x d ∧ termD d = false ∧ ∀ H', Same H H' → E (.ref C) none H'
theorem noB {b : Bool} {p : Prop} (h : b = false) : b = true → p := fun z => by rw [h] at z; cases z
theorem ok_places (T : Tx K mg) : FnOk P w K mg base (L2.CX P w) 6 T.aplaces_of T.dplaces_of ["term"] (spBad K T.CInvalidTerm) := by
  have G := ok_ck (P := P) (w := w) (base := base) T
  refine T.fplaces_of.okX sc_places_of (fun vs H Q E h => ?_) (fun cdv A outer s H vs Q E hr h => ?_)
  · obtain ⟨x, d, rfl, _⟩ := h
    rfl
  · obtain ⟨x, d, rfl, hx, td, q⟩ := h
    exact ⟨_, pss_cons (ps_expr (pe_call G (hr.mono (by omega)) (by rfl) T.gcheck_term T.fcheck_term.kp T.ncheck_term .nil (passes_call (takes_of rfl rfl rfl rfl) (fun _ _ _ _ h => h)) (pa_cons (pv 0) pa_nil))) pss_false, _, rfl, _, _, rfl, hx, noB td, fun _ => q⟩
theorem ok_levels (T : Tx K mg) : FnOk P w K mg base (L2.CX P w) 6 T.alevels T.dlevels ["term"] (spBad K T.CInvalidTerm) := by
  have G := ok_ck (P := P) (w := w) (base := base) T
  refine T.flevels.okX sc_levels (fun vs H Q E h => ?_) (fun cdv A outer s H vs Q E hr h => ?_)
  · obtain ⟨x, d, rfl, _⟩ := h
    rfl
  · obtain ⟨x, d, rfl, hx, td, q⟩ := h
    exact ⟨_, pss_cons (ps_expr (pe_call G (hr.mono (by omega)) (by rfl) T.gcheck_term T.fcheck_term.kp T.ncheck_term .nil (passes_call (takes_of rfl rfl rfl rfl) (fun _ _ _ _ h => h)) (pa_cons (pv 0) pa_nil))) pss_false, _, rfl, _, _, rfl, hx, noB td, fun _ => q⟩
theorem ok_size (T : Tx K mg) : FnOk P w K mg base (L2.CX P w) 6 T.asize_of T.dsize_of ["term"] (spBad K T.CInvalidTerm) := by
  have G := ok_ck (P := P) (w := w) (base := base) T
  refine T.fsize_of.okX sc_size_of (fun vs H Q E h => ?_) (fun cdv A outer s H vs Q E hr h => ?_)
  · obtain ⟨x, d, rfl, _⟩ := h
    rfl
  · obtain ⟨x, d, rfl, hx, td, q⟩ := h
    exact ⟨_, pss_cons (ps_expr (pe_call G (hr.mono (by omega)) (by rfl) T.gcheck_term T.fcheck_term.kp T.ncheck_term .nil (passes_call (takes_of rfl rfl rfl rfl) (fun _ _ _ _ h => h)) (pa_cons (pv 0) pa_nil))) pss_false, _, rfl, _, _, rfl, hx, noB td, fun _ => q⟩
theorem ok_text (T : Tx K mg) : FnOk P w K mg base (L2.CX P w) 6 T.atext_of T.dtext_of ["term"] (spBad K T.CInvalidTerm) := by
  have G := ok_ck (P := P) (w := w) (base := base) T
  refine T.ftext_of.okX sc_text_of (fun vs H Q E h => ?_) (fun cdv A outer s H vs Q E hr h => ?_)
  · obtain ⟨x, d, rfl, _⟩ := h
    rfl
  · obtain ⟨x, d, rfl, hx, td, q⟩ := h
    exact ⟨_, pss_cons (ps_expr (pe_call G (hr.mono (by omega)) (by rfl) T.gcheck_term T.fcheck_term.kp T.ncheck_term .nil (passes_call (takes_of rfl rfl rfl rfl) (fun _ _ _ _ h => h)) (pa_cons (pv 0) pa_nil))) pss_false, _, rfl, _, _, rfl, hx, noB td, fun _ => q⟩
/-- two arguments, one of which is no term -/
def spBad2 (K : PySem.W.Frag) (C : Addr) : Sp := fun vs H Q E => ∃ (x y : V) (d e : PyData), vs = [x, y] ∧ Dz K H x d ∧ Dz K H y e ∧ (termD d && termD e) = false ∧ ∀ H', Same H H' → E (.ref C) none H'
theorem ok_stands (T : Tx K mg) : FnOk P w K mg base (L2.CX P w) 6 T.astands_in T.dstands_in ["term", "other"] (spBad2 K T.CInvalidTerm) := by
  have G := ok_ck (P := P) (w := w) (base := base) T
  refine T.fstands_in.okX sc_stands_in (fun vs H Q E h => ?_) (fun cdv A outer s H vs Q E hr h => ?_)
  · obtain ⟨x, y, d, e, rfl, _⟩ := h
    rfl
  · obtain ⟨x, y, d, e, rfl, hx, hy, td, q⟩ := h
    refine ⟨_, pss_cons (ps_expr (pe_call G (hr.mono (by omega)) (by rfl) T.gcheck_term T.fcheck_term.kp T.ncheck_term .nil (passes_call (takes_of rfl rfl rfl rfl) (fun _ _ _ _ h => h)) (pa_cons (pv 0) pa_nil)))
      (pss_cons (ps_expr (pe_call G (hr.mono (by omega)) (by rfl) T.gcheck_term T.fcheck_term.kp T.ncheck_term .nil (passes_call (takes_of rfl rfl rfl rfl) (fun _ _ _ _ h => h)) (pa_cons (pv 1) pa_nil))) pss_false), ?_⟩
    exact ⟨_, rfl, x, d, rfl, hx, fun t1 H1 s1 => ⟨_, rfl, _, _, rfl, hy.up s1, noB (by rw [t1] at td; simpa using td), fun _ H2 s2 => q H2 (s1.trans s2)⟩, fun _ => q⟩
/-- three arguments, one of which is no term -/
def spBad3 (K : PySem.W.Frag) (C : Addr) : Sp := fun vs H Q E => ∃ (x y z : V) (d e c : PyData), vs = [x, y, z] ∧ Dz K H x d ∧ Dz K H y e ∧ Dz K H z c ∧ (termD d && termD e && termD c) = false ∧ ∀ H', Same H H' → E (.ref C) none H'
theorem ok_rep (T : Tx K mg) : FnOk P w K mg base (L2.CX P w) 6 T.areplaced T.dreplaced ["term", "old", "new"] (spBad3 K T.CInvalidTerm) := by
  have G := ok_ck (P := P) (w := w) (base := base) T
  refine T.freplaced.okX sc_replaced (fun vs H Q E h => ?_) (fun cdv A outer s H vs Q E hr h => ?_)
  · obtain ⟨x, y, z, d, e, c, rfl, _⟩ := h
    rfl
  · obtain ⟨x, y, z, d, e, c, rfl, hx, hy, hz, td, q⟩ := h
    refine ⟨_, pss_cons (ps_expr (pe_call G (hr.mono (by omega)) (by rfl) T.gcheck_term T.fcheck_term.kp T.ncheck_term .nil (passes_call (takes_of rfl rfl rfl rfl) (fun _ _ _ _ h => h)) (pa_cons (pv 0) pa_nil)))
      (pss_cons (ps_expr (pe_call G (hr.mono (by omega)) (by rfl) T.gcheck_term T.fcheck_term.kp T.ncheck_term .nil (passes_call (takes_of rfl rfl rfl rfl) (fun _ _ _ _ h => h)) (pa_cons (pv 1) pa_nil)))
      (pss_cons (ps_expr (pe_call G (hr.mono (by omega)) (by rfl) T.gcheck_term T.fcheck_term.kp T.ncheck_term .nil (passes_call (takes_of rfl rfl rfl rfl) (fun _ _ _ _ h => h)) (pa_cons (pv 2) pa_nil))) pss_false)), ?_⟩
    exact ⟨_, rfl, x, d, rfl, hx, fun t1 H1 s1 => ⟨_, rfl, y, e, rfl, hy.up s1, fun t2 H2 s2 => ⟨_, rfl, _, _, rfl, hz.up (s1.trans s2), noB (by rw [t1, t2] at td; simpa using td), fun _ H3 s3 => q H3 (s1.trans (s2.trans s3))⟩, fun _ H2 s2 => q H2 (s1.trans s2)⟩, fun _ => q⟩
/-- the generator: it raises at the first item -/
def spGen (K : PySem.W.Frag) (C : Addr) : SpG := fun vs H Q E => ∃ (x : V) (d : PyData), vs = [x] ∧ Dz K H x d ∧ termD d = false ∧ ∀ H', Same H H' → E (.ref C) none H'
theorem gss_false {X : Cx} {b : List Stmt} : GSs X b (fun _ _ _ _ => False) := gss_pss pss_false
theorem ok_subs (T : Tx K mg) : GFn P w K mg base 6 T.asubterms T.dsubterms ["term"] (spGen K T.CInvalidTerm) := by
  obtain ⟨oc, od, kV, doc, pm, an, cdv, ct, osl, ed, lk, hcd⟩ := T.fsubterms.ex
  have G := ok_ck (P := P) (w := w) (base := base) T
  rw [ed] at lk ⊢
  refine gfn_of lk hcd sc_subterms (fun vs H Q E h => ?_) (fun A outer s H vs Q E pn hr h => ?_)
  · obtain ⟨x, d, rfl, _⟩ := h
    rfl
  · obtain ⟨x, d, rfl, hx, td, q⟩ := h
    exact ⟨_, gss_cons (gs_ps (ps_expr (pe_call G (hr.mono (by omega)) (by rfl) T.gcheck_term T.fcheck_term.kp T.ncheck_term .nil (passes_call takes_gcx (fun _ _ _ _ h => h)) (pa_cons (pv 0) pa_nil)))) gss_false, _, rfl, _, _, rfl, hx, noB td, fun _ => q⟩
end
end K05
/-! {elt for target in iter}, elt a text or an int; its length. -/
namespace Kx
open PySem PySem.Spec PyProof.Rows L2 PpSet
section
variable {X : Cx}
/-- what a turn leaves: Nx the heap behind it -/
abbrev TurnK (P : Program) (w : World) (D : Addr) (te : TE) (σ : L2.St) (H : Hp) (Nx : Hp → Prop) : Prop :=
  te σ H fun y G => ∃ (c : Key) (S : Key → Bool) (n : Nat), y = kV c ∧ G D = some (L2.SetK P w D S n) ∧ n + 1 < scanBound ∧ Nx (upd G D (L2.SetK P w D (fun j => S j || decide (j = c)) (if S c = true then n else n + 1)))
def tScK (P : Program) (w : World) (wi : TI) (g : TG) (tt : TT) (te : TE) (vs : List Nat) : TE := fun σ H Q => wi σ H fun J H1 => ∀ D, H1 D = none →
  ∃ W : Nat → Nat → Hp → Prop, (∃ m, W 0 m (upd H1 D (L2.SetK P w D (fun _ => false) 0))) ∧ ∀ i m G, W i m G → (J.stop i G ∧ Q (.ref D) G) ∨
    (J.go i G ∧ ∃ Nx : Hp → Prop, (∀ G', Nx G' → ∃ m', m' < m ∧ W (i + 1) m' G') ∧ ∀ x G', J.yld i G x G' → g x (wipe σ vs) G' fun σ2 G2 => wipe σ2 vs = wipe σ vs ∧ tt σ2 G2 fun b G3 => if b = true then TurnK P w D te σ2 G3 Nx else Nx G3)
theorem emptyK {P : Program} {w : World} {h : Heap} : (h.push { cls := .type "set", dict := none, data := .set #[] 0 (.fresh 0 0 (!w.params.followText "set-order")) }).SetOf (mixKind P w) h.objs.size (fun _ => false) 0 :=
  ⟨_, #[], 0, _, Heap.get?_push_size _ rfl, ⟨rfl, rfl, rfl⟩, rfl, (fun e he => by simp at he), (fun k => by simp), (by decide), (by rfl), rfl⟩
theorem pe_scK {elt tg iter : Expr} {ifs : List Expr} {scope : Scope} {own : List (PySem.Str × Nat)} {pos : Pos} {wi : TI} {g : TG} {tt : TT} {te : TE} (hc : X.calm = true) (hN : X.N.Nodup) (hi : PI X tg iter wi) (ok : BlkOk X.N X.env.scope scope own)
    (hg : ∀ (s : Shared) (H : Hp) (C : Addr) (cl : List (PySem.Str × Addr)) (fp : List Addr), PG (X.blk s H scope (compEnvC scope cl C X.env) fp) tg g)
    (ht : ∀ (s : Shared) (H : Hp) (C : Addr) (cl : List (PySem.Str × Addr)) (fp : List Addr), PTs (X.blk s H scope (compEnvC scope cl C X.env) fp) ifs tt)
    (he : ∀ (s : Shared) (H : Hp) (C : Addr) (cl : List (PySem.Str × Addr)) (fp : List Addr), PE (X.blk s H scope (compEnvC scope cl C X.env) fp) elt te) (hs : ∀ x, foldedSetIterable iter X.env x = pure x := by intro _; rfl) :
    PE X (.SetComp elt [⟨tg, iter, ifs, 0⟩] scope pos) (tScK X.prog X.w wi g tt te (own.map (·.2))) := by
  refine ⟨fun pins s σ H Q I hQ => ?_⟩
  have cells : ∀ y ∈ scope.names, y.2 = .free → ∃ c, X.env.cells.lookup y.1 = some c := fun y hy e =>
    (ok.free y hy e).elim (fun z => I.ok.has _ (.inl z)) (fun z => I.ok.has _ (.inr z))
  rw [eval_SetComp]
  refine wpAny_comprehension_free (use := none) rfl hs (closure_ok cells) ok.kind (fun y hy e => by rw [ok.uniq y hy, e]) (thn (hi.run pins s σ H _ I hQ) fun xv sa ha => thn ha fun itv sb hb => ?_)
  obtain ⟨it, fp, tn, J, Hb, rfl, Ib, T, stb, fb, qb⟩ := hb
  refine newSet_ok (newEnv_comp ?_)
  obtain ⟨D, eD⟩ : ∃ D, D = sb.heap.objs.size := ⟨_, rfl⟩
  have nD : Hb D = none := Ib.hok.fresh (by rw [eD]; exact Nat.le_refl _)
  obtain ⟨W, ⟨m0, w0⟩, turns⟩ := qb D nD
  obtain ⟨sc, esc⟩ : ∃ sc : Shared, sc = { sb with heap := sb.heap.push { cls := .type "set", dict := none, data := .set #[] 0 (.fresh 0 0 (!X.w.params.followText "set-order")) } } := ⟨_, rfl⟩
  have hsc : sc.heap = sb.heap.push { cls := .type "set", dict := none, data := .set #[] 0 (.fresh 0 0 (!X.w.params.followText "set-order")) } := by rw [esc]
  have Ic : Inv X pins σ (upd Hb D (L2.SetK X.prog X.w D (fun _ => false) 0)) sc := by
    subst esc eD
    exact Ib.laid (t' := sb.toks) (fun b o e => Heap.get?_push_of_some _ e) (Nat.le_refl _) (L2.setK_new emptyK)
  have old : ∀ b ∈ fp, b < sb.heap.objs.size := fun b hb => by
    obtain ⟨o, e, _⟩ := T.obj _ _ stb b hb
    exact Heap.lt_size e
  have fc : ∀ b ∈ fp, FpOk X pins (upd Hb D (L2.SetK X.prog X.w D (fun _ => false) 0)) b ∧ b < sc.heap.objs.size := fun b hb => by
    have lt := old b hb
    refine ⟨⟨?_, (fb b hb).2⟩, by rw [hsc, Heap.size_push]; exact Nat.lt_succ_of_lt lt⟩
    rw [upd_ne (show b ≠ D by rw [eD]; exact Nat.ne_of_lt lt)]
    exact (fb b hb).1
  have stc : tn 0 sc.heap := T.keep _ _ _ stb fun b _ o e => by
    rw [hsc]
    exact Heap.get?_push_of_some _ e
  obtain ⟨Hc, eHc⟩ : ∃ Hc, Hc = upd Hb D (L2.SetK X.prog X.w D (fun _ => false) 0) := ⟨_, rfl⟩
  rw [← eHc] at Ic fc w0
  obtain ⟨cl, ecl⟩ : ∃ cl, cl = cellsFrom (sc.heap.objs.size + 1) scope.names (cloFrom X.env.cells scope.names []) := ⟨_, rfl⟩
  have Id := block_start Ic ok hN fc
  have pg := hg sc Hc sc.heap.objs.size cl fp
  have pt := ht sc Hc sc.heap.objs.size cl fp
  have pe := he sc Hc sc.heap.objs.size cl fp
  have goal : codeAny (model X.prog X.w) X.A (.compStart (.SetComp elt [⟨tg, iter, ifs, 0⟩] scope pos) 0 (.ref it) (.ref D) (compEnvC scope cl sc.heap.objs.size X.env)) (compPost (model X.prog X.w) X.A X.xe none (EP X pins σ Q) (.ref D) sc.heap.objs.size)
      { sc with heap := pushCells (sc.heap.push { cls := .type "dict", data := .dict #[] }) scope.names } := by
    rw [← ecl] at Id
    obtain ⟨ce, ece⟩ : ∃ ce, ce = compEnvC scope cl sc.heap.objs.size X.env := ⟨_, rfl⟩
    rw [← ece] at Id pg pt pe ⊢
    have loc : ce.locals = sc.heap.objs.size := by rw [ece]; rfl
    obtain ⟨sd, esd⟩ : ∃ sd : Shared, sd = { sc with heap := pushCells (sc.heap.push { cls := .type "dict", data := .dict #[] }) scope.names } := ⟨_, rfl⟩
    rw [← esd] at Id ⊢
    have std : tn 0 sd.heap := T.keep _ _ _ stc fun b _ o e => by
      rw [esd]
      exact pushCells_keeps _ _ _ _ (Heap.get?_push_of_some _ e)
    have inB : ∀ {τ : L2.St} {G : Hp} {z : Shared}, Inv (X.blk sc Hc scope ce fp) [] τ G z → (∀ b ∈ fp, G b = none) → ∀ b ∈ fp, FpOk (X.blk sc Hc scope ce fp) [] G b := fun {τ G z} I' hn b hb =>
      ⟨hn b hb, (I'.ok.exf b hb).1, I'.ok.exfs b hb, .inl hb, fun x c e => (I'.ok.exf b hb).2 x c e, fun p hp => absurd (show p ∈ ([] : List (Addr × Obj)) ++ [] from hp) (by simp)⟩
    have main : codeAny (model X.prog X.w) X.A (.compLoop (.SetComp elt [⟨tg, iter, ifs, 0⟩] scope pos) 0 (.ref it) (.ref D) ce) (compPost (model X.prog X.w) X.A X.xe none (EP X pins σ Q) (.ref D) sc.heap.objs.size) sd := by
      refine compLoopS_any (fun n z => ∃ i G, Inv (X.blk sc Hc scope ce fp) [] (wipe σ (own.map (·.2))) G z ∧ tn i z.heap ∧ (∀ b ∈ fp, G b = none) ∧ W i n G) ?_ m0 ⟨0, Hc, Id, std, fun b hb => (fc b hb).1.1, w0⟩
      rintro n z ⟨i, G, IG, stG, nG, wG⟩
      rcases turns i n G wG with ⟨stop, qq⟩ | ⟨go, Nx, hNx, step⟩
      · refine thnF (T.done (X.blk sc Hc scope ce fp) rfl rfl rfl hc i [] z _ G (fun _ _ => False) IG (inB IG nG) stG stop) fun r z2 ⟨hr, I2⟩ => ?_
        subst hr
        have I3 : Inv X pins σ G z2 := Ic.call' (ch := fp) I2.os I2.base I2.hok I2.bare fun b hb => ⟨(fc b hb).1.2.2.2.1, (fc b hb).1.2.1, (fc b hb).1.2.2.2.2.1, (fc b hb).1.2.2.2.2.2⟩
        have nC : G sc.heap.objs.size = none := by
          have z : G ce.locals = none := I2.free
          rwa [loc] at z
        obtain ⟨mm, hm, _⟩ := I2.loc
        have hm : z2.heap.Ns ce.locals mm := hm
        rw [loc] at hm
        refine ⟨mm, hm, fun h'' up => ?_⟩
        obtain ⟨f0, f1, f2, f3, f4, f5⟩ := Ic.fpOk (Nat.le_refl _) nC
        exact ⟨.ref D, G, I3.turned (t' := z2.toks) (fun b o hb e => (up.2 b hb).trans e) f0 f1 f3 f4 f5, rfl, qq⟩
      · refine thnF (T.item (X.blk sc Hc scope ce fp) rfl rfl rfl hc i [] z _ G (fun _ _ => False) IG (inB IG nG) stG go) fun r z2 ⟨u, hr, h2⟩ => ?_
        subst hr
        refine thnF h2 fun _ z3 ⟨x, G3, I3, r3, y3, st3, n3⟩ => ?_
        refine thnF (pg.run _ z3 _ G3 x u _ (I3.pinned (inB I3 n3) (T.obj _ _ st3)) r3 (step x G3 y3)) fun _ z4 ⟨σ4, G4, I4, hw, q4⟩ => ?_
        refine thnF (pt.run _ z4 σ4 G4 _ I4 q4) fun b z5 ⟨G5, I5, q5⟩ => ?_
        have back : ∀ {z' : Shared} {G' : Hp}, Inv (X.blk sc Hc scope ce fp) ([] ++ pinsAt fp z3.heap) σ4 G' z' → Nx G' → ∃ m, m < n ∧ ∃ i G, Inv (X.blk sc Hc scope ce fp) [] (wipe σ (own.map (·.2))) G z' ∧ tn i z'.heap ∧ (∀ b ∈ fp, G b = none) ∧ W i m G := fun {z' G'} I' nx => by
          obtain ⟨m', lt, w'⟩ := hNx G' nx
          have at' : ∀ b ∈ fp, ∀ o, z3.heap.get? b = some o → z'.heap.get? b = some o ∧ G' b = none := fun b hb o e =>
            have p := I'.pin (b, o) (List.mem_append_right _ (List.mem_append_right _ (mem_pinsAt hb e)))
            ⟨p.1, p.2.1⟩
          refine ⟨m', lt, i + 1, G', (I'.unpinned (pins := [])).weak (by rw [← hw, wipe_length]) (fun j v e => ?_), T.keep _ _ _ st3 fun b hb o e => (at' b hb o e).1, fun b hb => ?_, w'⟩
          · rw [← hw] at e
            exact (wipe_some e).1
          · obtain ⟨o, e, _⟩ := T.obj _ _ st3 b hb
            exact (at' b hb o e).2
        by_cases eb : b = true
        · subst eb
          simp only [if_true] at q5 ⊢
          refine thnF (pe.run _ z5 σ4 G5 _ I5 q5) fun v z6 ⟨yv, G6, I6, r6, c, S, k, ey, h6, room, nx⟩ => ?_
          subst ey
          exact thnF (mt_saddK (X := X.blk sc Hc scope ce fp) _ z6 σ4 G6 (.ref D) [kV c] (.ref D) [v] (fun _ G' => Nx G') I6 rfl (.cons r6 .nil) ⟨D, c, S, k, rfl, rfl, h6, room, nx⟩) fun _ z7 ⟨_, G7, I7, _, nx7⟩ => back I7 nx7
        · have eb' : b = false := by simpa using eb
          subst eb'
          simp only [Bool.false_eq_true, if_false] at q5 ⊢
          exact back I5 q5
    exact codeAny_compStart_set main (T.self X.A 0 _ _ _ std main)
  rw [ecl] at goal
  subst esc eD
  exact goal
end
end Kx
namespace Kx
open PySem PySem.Spec PyProof.Rows L2 PpSet
section
variable {X : Cx}
def rLenSK (P : Program) (w : World) : List V → Hp → VK → Prop := fun xs H Q => ∃ (a : Addr) (S : Key → Bool) (n : Nat), xs = [.ref a] ∧ H a = some (L2.SetK P w a S n) ∧ Q (.int (n : Nat)) H
theorem call_lenSK : CallR X (.builtin "len") (rLenSK X.prog X.w) := by
  intro pins s σ H xs us Q I rv h
  obtain ⟨a, S, n, rfl, ha, q⟩ := h
  obtain ⟨u, rfl, ru⟩ := rv.one
  cases ru
  obtain ⟨o, es, ep, t, ho, hex, hd, _, _, few, hf, hn⟩ := L2.setK_get I ha
  have e4 : scanBound = 4096 := rfl
  exact call_len_set ho hex hd hf (by omega) ⟨.int (n : Nat), H, I.tok _, ⟨_, by rw [hn]⟩, q⟩
end
/-- a set comprehension over the keys of a locked dict -/
theorem sck_keys {P : Program} {w : World} {d : Addr} {o : Obj} {kvs : List (Key × V)} {g : TG} {tt : TT} {te : TE} {vs : List Nat} {σ : L2.St} {H1 : Hp} {D : Addr} {Qd : Hp → Prop} (Pv : Nat → Hp → Prop) (h0 : Pv 0 (upd H1 D (L2.SetK P w D (fun _ => false) 0)))
    (hl : ∀ i H, Pv i H → H d = some (.frz o (.dK kvs))) (hs : ∀ (i : Nat) k v H, kvs[i]? = some (k, v) → Pv i H → g (kV k) (wipe σ vs) H fun σ2 H2 => wipe σ2 vs = wipe σ vs ∧ tt σ2 H2 fun b H3 => if b = true then TurnK P w D te σ2 H3 (Pv (i + 1)) else Pv (i + 1) H3)
    (hd : ∀ H, Pv kvs.length H → Qd H) : ∃ W : Nat → Nat → Hp → Prop, (∃ m, W 0 m (upd H1 D (L2.SetK P w D (fun _ => false) 0))) ∧ ∀ i m G, W i m G → ((Itk d o kvs).stop i G ∧ Qd G) ∨
    ((Itk d o kvs).go i G ∧ ∃ Nx : Hp → Prop, (∀ G', Nx G' → ∃ m', m' < m ∧ W (i + 1) m' G') ∧ ∀ x G', (Itk d o kvs).yld i G x G' → g x (wipe σ vs) G' fun σ2 G2 => wipe σ2 vs = wipe σ vs ∧ tt σ2 G2 fun b G3 => if b = true then TurnK P w D te σ2 G3 Nx else Nx G3) := by
  refine ⟨fun i m H => m = kvs.length - i ∧ i ≤ kvs.length ∧ Pv i H, ⟨_, rfl, Nat.zero_le _, h0⟩, ?_⟩
  rintro i m G ⟨rfl, le, p⟩
  have f := hl i G p
  by_cases lt : i < kvs.length
  · refine .inr ⟨⟨f, lt⟩, Pv (i + 1), fun G' p' => ⟨kvs.length - (i + 1), by omega, rfl, lt, p'⟩, fun x G' ⟨e, k, v, hk, ex⟩ => ?_⟩
    subst e ex
    exact hs i k v _ hk p
  · have e : i = kvs.length := by omega
    subst e
    exact .inl ⟨⟨f, Nat.le_refl _⟩, hd G p⟩
/-- a list comprehension over the keys of a locked dict -/
theorem lc_keys {d : Addr} {o : Obj} {kvs : List (Key × V)} {g : TG} {tt : TT} {te : TE} {vs : List Nat} {σ : L2.St} {H1 : Hp} {D : Addr} {Qd : Hp → Prop} (Pv : Nat → Hp → Prop) (h0 : Pv 0 (upd H1 D (.lst [])))
    (hl : ∀ i H, Pv i H → H d = some (.frz o (.dK kvs))) (hs : ∀ (i : Nat) k v H, kvs[i]? = some (k, v) → Pv i H → g (kV k) (wipe σ vs) H fun σ2 H2 => wipe σ2 vs = wipe σ vs ∧ tt σ2 H2 fun b H3 =>
      if b = true then te σ2 H3 fun y H4 => ∃ acc, H4 D = some (.lst acc) ∧ acc.length < sizeLine ∧ Pv (i + 1) (upd H4 D (.lst (acc ++ [y]))) else Pv (i + 1) H3)
    (hd : ∀ H, Pv kvs.length H → Qd H) : ∃ W : Nat → Nat → Hp → Prop, (∃ m, W 0 m (upd H1 D (.lst []))) ∧ ∀ i m G, W i m G → ((Itk d o kvs).stop i G ∧ Qd G) ∨
    ((Itk d o kvs).go i G ∧ ∃ Nx : Hp → Prop, (∀ G', Nx G' → ∃ m', m' < m ∧ W (i + 1) m' G') ∧ ∀ x G', (Itk d o kvs).yld i G x G' → g x (wipe σ vs) G' fun σ2 G2 => wipe σ2 vs = wipe σ vs ∧ tt σ2 G2 fun b G3 =>
      if b = true then te σ2 G3 fun y G4 => ∃ acc, G4 D = some (.lst acc) ∧ acc.length < sizeLine ∧ Nx (upd G4 D (.lst (acc ++ [y]))) else Nx G3) := by
  refine ⟨fun i m H => m = kvs.length - i ∧ i ≤ kvs.length ∧ Pv i H, ⟨_, rfl, Nat.zero_le _, h0⟩, ?_⟩
  rintro i m G ⟨rfl, le, p⟩
  have f := hl i G p
  by_cases lt : i < kvs.length
  · refine .inr ⟨⟨f, lt⟩, Pv (i + 1), fun G' p' => ⟨kvs.length - (i + 1), by omega, rfl, lt, p'⟩, fun x G' ⟨e, k, v, hk, ex⟩ => ?_⟩
    subst e ex
    exact hs i k v _ hk p
  · have e : i = kvs.length := by omega
    subst e
    exact .inl ⟨⟨f, Nat.le_refl _⟩, hd G p⟩
end Kx
/-! Slices and sums of tuples as data. -/
namespace Kx
open PySem PySem.Spec PyProof.Rows L2
theorem offs_nil {H : Hp} : Same H (OffS [] H) := fun b o h => OffS.out (fun z => nomatch z) h
theorem olds_nil {H : Hp} : Olds [] H := fun b z => nomatch z
section
variable {K : PySem.W.Frag} {S : List Addr} {H : Hp} {x y : V} {ds es : List PyData} {Q : VK}
theorem sl_upto {i : Nat} (hx : Dx K (OffS S H) x (.tuple ds)) (o : Olds S H) (q : ∀ y H', Same H H' → Dx K (OffS S H') y (.tuple (ds.take i)) → Q y H') : rSlA K x none (some (i : Int)) H Q := by
  cases hx with
  | @tup a xs _ ha hs =>
  refine ⟨a, xs, rfl, SqT.of (OffS.all _ _ ha), fun z => ?_, fun _ p np => ?_⟩
  · have e : min i xs.length = xs.length := by
      have := z.2
      rwa [show HT.sIx xs.length xs.length (some (i : Int)) = min i xs.length from HT.sIx_nat xs.length xs.length i] at this
    refine q _ _ (Same.refl H) ?_
    rw [List.take_of_length_le (by rw [← hs.length]; omega)]
    exact .tup ha hs
  · have e : cutV xs none (some (i : Int)) = xs.take i := by
      unfold cutV
      rw [show HT.sIx xs.length xs.length (some (i : Int)) = min i xs.length from HT.sIx_nat xs.length xs.length i, show HT.sIx xs.length 0 none = 0 from rfl, List.drop_zero, Nat.sub_zero]
      by_cases e : i ≤ xs.length
      · rw [Nat.min_eq_left e]
      · rw [Nat.min_eq_right (by omega), List.take_length, List.take_of_length_le (by omega)]
    rw [e]
    exact q _ _ (same_put np) (.tup (OffS.out (o.new np) upd_same) ((hs.take i).up (OffS.same (same_put np))))
theorem sl_from {i : Nat} (hx : Dx K (OffS S H) x (.tuple ds)) (o : Olds S H) (q : ∀ y H', Same H H' → Dx K (OffS S H') y (.tuple (ds.drop i)) → Q y H') : rSlA K x (some (i : Int)) none H Q := by
  cases hx with
  | @tup a xs _ ha hs =>
  refine ⟨a, xs, rfl, SqT.of (OffS.all _ _ ha), fun z => ?_, fun _ p np => ?_⟩
  · have e : min i xs.length = 0 := by
      have := z.1
      rwa [show HT.sIx xs.length 0 (some (i : Int)) = min i xs.length from HT.sIx_nat xs.length 0 i] at this
    refine q _ _ (Same.refl H) ?_
    by_cases h : i = 0
    · rw [h, List.drop_zero]
      exact .tup ha hs
    · have : ds = [] := List.eq_nil_of_length_eq_zero (by rw [← hs.length]; omega)
      rw [this] at hs ⊢
      rw [List.drop_nil]
      exact .tup ha hs
  · have e : cutV xs (some (i : Int)) none = xs.drop i := by
      unfold cutV
      rw [show HT.sIx xs.length 0 (some (i : Int)) = min i xs.length from HT.sIx_nat xs.length 0 i, HT.sIx_none]
      by_cases e : i ≤ xs.length
      · rw [Nat.min_eq_left e, List.take_of_length_le (by rw [List.length_drop]; omega)]
      · rw [Nat.min_eq_right (by omega), Nat.sub_self, List.take_zero, List.drop_eq_nil_of_le (by omega)]
    rw [e]
    exact q _ _ (same_put np) (.tup (OffS.out (o.new np) upd_same) ((hs.drop i).up (OffS.same (same_put np))))
theorem cat_tups (hx : Dx K (OffS S H) x (.tuple ds)) (hy : Dx K (OffS S H) y (.tuple es)) (o : Olds S H) (few : ds.length + es.length ≤ sizeLine) (q : ∀ z H', Same H H' → Dx K (OffS S H') z (.tuple (ds ++ es)) → Q z H') : rCatA K x y H Q := by
  cases hx with
  | @tup a xs _ ha hs =>
  cases hy with
  | @tup b ys _ hb ht =>
  refine ⟨a, b, xs, ys, rfl, rfl, SqT.of (OffS.all _ _ ha), SqT.of (OffS.all _ _ hb), by rw [hs.length, ht.length]; exact few, fun e => ?_, fun _ e => ?_, fun _ _ p np => ?_⟩
  · subst e
    cases hs
    exact q _ _ (Same.refl H) (.tup hb ht)
  · subst e
    cases ht
    rw [List.append_nil] at q
    exact q _ _ (Same.refl H) (.tup ha hs)
  · exact q _ _ (same_put np) (.tup (OffS.out (o.new np) upd_same) (DxAll.append (hs.up (OffS.same (same_put np))) (ht.up (OffS.same (same_put np)))))
end
end Kx
/-! All but some addresses stay. -/
namespace Kx
open PySem PySem.Spec PyProof.Rows L2
def ButL (S : List Addr) (H H' : Hp) : Prop := ∀ b o, H b = some o → b ∉ S → H' b = some o
section
variable {S S' : List Addr} {H H0 G G' : Hp} {b p : Addr} {o u : HO}
theorem ButL.refl : ButL S H H := fun _ _ h _ => h
theorem ButL.of (s : Same H G) : ButL S H G := fun b o h _ => s b o h
theorem ButL.trans (x : ButL S H G) (y : ButL S G G') : ButL S H G' := fun b o h n => y b o (x b o h n) n
theorem ButL.at (x : ButL S H G) (e : H b = some o) (n : b ∉ S) : G b = some o := x b o e n
theorem ButL.put (x : ButL S H G) (m : b ∈ S) : ButL S H (upd G b u) := fun c o h n => by
  rw [upd_ne (fun z : c = b => n (by rw [z]; exact m))]
  exact x c o h n
theorem ButL.new (x : ButL S H G) (np : G p = none) : ButL S H (upd G p u) := fun c o h n => by
  rw [upd_ne (ne_of_none (x c o h n) np)]
  exact x c o h n
theorem ButL.same (s : Same H0 H) (n : ∀ b ∈ S, H0 b = none) (x : ButL S H G) : Same H0 G := fun b o h => x b o (s b o h) fun z => by
  rw [n b z] at h
  cases h
theorem ButL.weak (x : ButL S H G) (h : ∀ b ∈ S, b ∈ S') : ButL S' H G := fun b o e n => x b o e fun z => n (h b z)
end
end Kx
namespace Kx
open PySem PySem.Spec PyProof.Rows L2
section
variable {S S' : List Addr} {H G : Hp}
theorem offs_but (x : ButL S' H G) (n : ∀ b, b ∈ S' → b ∉ S → H b = none) : Same (OffS S H) (OffS S G) := fun b o h => by
  obtain ⟨m, h⟩ := OffS.of h
  refine OffS.out m (x b o h fun z => ?_)
  rw [n b z m] at h
  cases h
theorem same_offs (s : Same H G) (n : ∀ b, b ∈ S → H b = none) : Same H (OffS S G) := fun b o h => OffS.out (fun z => by
  rw [n b z] at h
  cases h) (s b o h)
end
end Kx
/-! {t: v}, t a tuple of texts and ints. -/
namespace Kx
open PySem PySem.Spec PyProof.Rows L2
def tDispT1 (tk tv : TE) : TE := fun σ H Q => ∀ p, H p = none → tk σ (upd H p (.dT [])) fun x H1 => tv σ H1 fun v H2 => ∃ (b : Addr) (k : List Key), x = .ref b ∧ H2 b = some (.tup (k.map kV)) ∧ H2 p = some (.dT []) ∧ Q (.ref p) (upd H2 p (.dT [(k, v)]))
theorem pe_dispT1 {X : Cx} {pos : Pos} {k v : Expr} {tk tv : TE} (hu : X.A.units + 2 < cLine) (hk : PE X k tk) (hv : PE X v tv) : PE X (.Dict [some k] [v] pos) (tDispT1 tk tv) := by
  refine ⟨fun pins s σ H Q I q => ?_⟩
  have hn := I.hok.fresh (Nat.le_refl s.heap.objs.size)
  have I1 := I.laid (a := s.heap.objs.size) (o := .dT []) (h' := s.heap.push { cls := .type "dict", data := .dict #[] }) (t' := s.toks) (fun _ _ q => Heap.get?_push_of_some _ q) (Nat.le_refl _) (dt_empty s.heap I.big)
  rw [arm_eval_Dict, (zip_pairTrees [some k] [v] X.env pos rfl rfl), dictDisplay_pairs _ (by simp [pairTrees]) (by simp [pairTrees])]
  refine wpAny_bind (wpAny_standAt (wpAny_bind ?_))
  unfold subDict
  refine wpAny_bind (wpAny_alloc (wpAny_bind (wpAny_holding ?_)))
  rw [if_pos (show (pairTrees [some k] [v] X.env pos).length ≤ 15 by simp [pairTrees])]
  refine wpAny_bind (pairTrees_cons_walk (thn (hk.run pins _ σ _ _ I1 (q _ hn)) fun kv s1 ⟨x, H1, I2, rx, q1⟩ => (thn (hv.run pins s1 σ H1 _ I2 q1) fun vv s2 ⟨y, H2, I3, ry, b, ks, ex, hb, hp, q2⟩ => pairTrees_nil_walk ?_)))
  subst ex
  cases rx
  refine wpAny_holding ?_
  obtain ⟨z, hd, xs, rel, dd⟩ := dt_of I3.hok hp
  cases rel
  rw [List.forIn_cons]
  refine wpAny_bind (wpAny_bind (wpAny_bind (wpAny_dictSet_heap (hsz := by simp) (by show X.A.units < cLine; omega) (key_of I3.hok hb) dd fun h' dd' hs => wpAny_pure ?_)))
  dsimp only
  rw [List.forIn_nil]
  refine wpAny_pure (wpAny_pure (wpAny_pure (wpAny_pure ?_)))
  obtain ⟨o, es, ep, hq, h2, h3, h4, _, h5⟩ := dd'
  have rel2 : KT H2 [(ks, y)] (storedH [] ks b vv) := (KT.put (kvs := []) (xs := []) .nil ks hb ry)
  refine ⟨.ref s.heap.objs.size, upd H2 s.heap.objs.size (.dT [(ks, y)]), ?_, rfl, q2⟩
  refine d_write I3 (by rw [hp]; exact True.intro) hs ⟨o, hq⟩ ⟨by show 1 ≤ sizeLine; decide, hd, _, rel2.keeps fun c ys ec => ?_, o, es, ep, hq, h2, h3, h4, h5⟩
  rw [upd_ne (ne_of ec hp (fun z => nomatch z))]
  exact ec
end Kx
/-! What the functions raise: names. -/
namespace K05
open PySem PySem.Spec PyProof.Rows L2 Kx
def strD (m : List (Str × Str)) : List (Key × V) := m.map fun p => (Sum.inr p.1, V.str p.2)
def look (m : List (Str × Str)) (x : Str) : Option Str := (m.find? fun p => decide (p.1 = x)).map Prod.snd
def nmOf (m : List (Str × Str)) (x : Str) : Str := (look m x).getD x
theorem val_strD (x : Str) : ∀ m : List (Str × Str), valV (strD m) (Sum.inr x) = (look m x).map V.str
  | [] => rfl
  | p :: m => by
    by_cases e : p.1 = x
    · rw [show strD (p :: m) = (Sum.inr p.1, V.str p.2) :: strD m from rfl, valV_pos (by rw [e]), look, List.find?_cons_of_pos (by simp [e])]
      rfl
    · rw [show strD (p :: m) = (Sum.inr p.1, V.str p.2) :: strD m from rfl, valV_neg (fun z => e (Sum.inr.inj z)), val_strD x m, look, look, List.find?_cons_of_neg (by simp [e])]
theorem look_getD (m : List (Str × Str)) (x : Str) : ((look m x).map V.str).getD (V.str x) = V.str (nmOf m x) := by
  unfold nmOf
  cases look m x <;> rfl
/-- a list of texts that holds the same as l, each once -/
theorem once_len : ∀ (l L : List Str), L.Nodup → (∀ z, z ∈ L ↔ z ∈ l) → L.length ≤ l.length ∧ (L.length = l.length ↔ l.Nodup)
  | [], L, _, h => by
    have : L = [] := List.eq_nil_iff_forall_not_mem.mpr fun z hz => by simpa using (h z).mp hz
    subst this
    simp
  | a :: r, L, nd, h => by
    by_cases ar : a ∈ r
    · have e := once_len r L nd (fun z => by
        rw [h z, List.mem_cons]
        exact ⟨fun x => x.elim (fun e => by rw [e]; exact ar) id, .inr⟩)
      rw [List.length_cons]
      refine ⟨by omega, fun x => by omega, fun x => absurd ar (List.nodup_cons.mp x).1⟩
    · have aL : a ∈ L := (h a).mpr List.mem_cons_self
      have e := once_len r (L.erase a) (nd.erase a) (fun z => by
        rw [nd.mem_erase_iff, h z, List.mem_cons]
        constructor
        · rintro ⟨n, x | x⟩
          · exact absurd x n
          · exact x
        · exact fun x => ⟨fun y => ar (y ▸ x), .inr x⟩)
      rw [List.length_erase_of_mem aL] at e
      have pos : 0 < L.length := List.length_pos_of_mem aL
      rw [List.length_cons, List.nodup_cons]
      refine ⟨by omega, fun x => ⟨ar, e.2.mp (by omega)⟩, fun x => ?_⟩
      have := e.2.mpr x.2
      omega
theorem kit_dict : ∀ d : PyData, kitB (tyD d) "dict" = some (match d with | .dict _ => true | _ => false)
  | .none => (by decide +kernel : kitB "NoneType" "dict" = some false)
  | .bool _ => (by decide +kernel : kitB "bool" "dict" = some false)
  | .int _ => (by decide +kernel : kitB "int" "dict" = some false)
  | .str _ => (by decide +kernel : kitB "str" "dict" = some false)
  | .list _ => (by decide +kernel : kitB "list" "dict" = some false)
  | .tuple _ => (by decide +kernel : kitB "tuple" "dict" = some false)
  | .dict _ => (by decide +kernel : kitB "dict" "dict" = some true)
def isDict : PyData → Bool
  | .dict _ => true
  | _ => false
/-- an entry of a dict: its key, its value, the value as data -/
abbrev Ent := Key × V × PyData
def okEnt (e : Ent) : Bool := nameD (keyD e.1) && nameD e.2.2
def entsD (es : List Ent) : List (Key × V) := es.map fun e => (e.1, e.2.1)
/-- what is no dict from names to names -/
inductive BadNm (K : PySem.W.Frag) (H : Hp) : V → Prop
  | dat {v : V} {d : PyData} : Dx K H v d → isDict d = false → BadNm K H v
  | dic {a : Addr} {es : List Ent} : H a = some (.dK (entsD es)) → (∀ e, e ∈ es → Dx K (OffS [a] H) e.2.1 e.2.2 ∧ (∀ y, keyD e.1 = .str y → y.length ≤ 1000) ∧ ∀ y, e.2.2 = .str y → y.length ≤ 1000) → (es.map fun e => e.1).Nodup → es.length ≤ 100 → es.all okEnt = false → BadNm K H (.ref a)
  | tup {a : Addr} {k : List Key} {v : V} : H a = some (.dT [(k, v)]) → BadNm K H (.ref a)
theorem BadNm.up {K : PySem.W.Frag} {H H' : Hp} {v : V} (h : BadNm K H v) (s : Same H H') : BadNm K H' v := by
  cases h with
  | dat a b => exact .dat (a.up s) b
  | dic a b c d e => exact .dic (s _ _ a) (fun x hx => ⟨(b x hx).1.up (OffS.same s), (b x hx).2⟩) c d e
  | tup a => exact .tup (s _ _ a)
theorem val_ents {k : Key} {v : V} {d : PyData} : ∀ {es : List Ent}, (es.map fun e => e.1).Nodup → (k, v, d) ∈ es → valV (entsD es) k = some v
  | p :: es, nd, h => by
    rw [List.map_cons, List.nodup_cons] at nd
    rcases List.mem_cons.mp h with e | h
    · subst e
      exact valV_pos rfl
    · have ne : p.1 ≠ k := fun z => nd.1 (by rw [z]; exact List.mem_map.mpr ⟨_, h, rfl⟩)
      rw [show entsD (p :: es) = (p.1, p.2.1) :: entsD es from rfl, valV_neg ne]
      exact val_ents nd.2 h
section
variable {P : Program} {w : World} {K : PySem.W.Frag} {mg : Str → Option Value} {base : Heap}
theorem look_mem {x y : Str} : ∀ {m : List (Str × Str)}, (m.map Prod.fst).Nodup → (x, y) ∈ m → look m x = some y
  | p :: m, nd, h => by
    rw [List.map_cons, List.nodup_cons] at nd
    rcases List.mem_cons.mp h with e | h
    · rw [← e, look, List.find?_cons_of_pos (by simp)]
      rfl
    · have ne : p.1 ≠ x := fun z => nd.1 (by rw [z]; exact List.mem_map.mpr ⟨_, h, rfl⟩)
      rw [look, List.find?_cons_of_neg (by simp [ne])]
      exact look_mem nd.2 h
theorem unlocked {a : Addr} {H G : Hp} {u : HO} (b : ButL [a] H G) (h : H a = some u) : Same H (upd G a u) := fun c o e => by
  by_cases z : c = a
  · rw [z, h] at e
    rw [z, upd_same]
    exact e
  · rw [upd_ne z]
    exact b c o e (by simp [z])
/-- the names that ms has, changed by m, stay apart -/
def Apart (m : List (Str × Str)) (l : List Str) : Prop := (l.map (nmOf m)).Nodup
def spRn (K : PySem.W.Frag) (CN CO : Addr) : Sp := fun vs H Q E => ∃ (p : Addr) (v : V) (ms : List NK), vs = [.ref p, v] ∧ H p = some (.dK (dictOf ms)) ∧ ms.length ≤ 1000 ∧
  ((BadNm K H v ∧ ∀ H', Same H H' → E (.ref CN) none H') ∨ ∃ (a : Addr) (m : List (Str × Str)), v = .ref a ∧ p ≠ a ∧ H a = some (.dK (strD m)) ∧ (∀ x y, (x, y) ∈ m → isNm x = true ∧ isNm y = true) ∧ (m.map Prod.fst).Nodup ∧ m.length ≤ 1000 ∧ ¬ Apart m (ms.map Prod.fst) ∧ ∀ H', Same H H' → E (.ref CO) none H')
theorem ok_rn (T : Tx K mg) : FnOk P w K mg base (L2.CX P w) 2 T.acheck_renaming T.dcheck_renaming ["places", "names"] (spRn K T.CInvalidName T.CInvalidOperation) := by
  have nd := sc_check_renaming.nd
  have G := ok_name (P := P) (w := w) (base := base) T
  refine T.fcheck_renaming.okX sc_check_renaming (fun vs H Q E h => ?_) (fun cdv A outer s H vs Q E hr h => ?_)
  · obtain ⟨p, v, ms, rfl, _⟩ := h
    rfl
  · obtain ⟨p, v, ms, rfl, hp, lms, h⟩ := h
    have hu := hu_of hr
    refine ⟨_, (pss_cons (ps_if (PW.pt (pw_or (pt_not (pt_val (pe_callB call_isi (by rfl) T.b_isinstance (by decide +kernel) (pa_cons (pv 1) (pa_cons (pe_bltn (v := .ty "dict") (by rfl) T.b_dict (by decide +kernel) rfl) pa_nil))))) (pw_or1 (pt_not (pt_val (pe_callB (cr_all rfl) (by rfl) T.b_all (by decide +kernel) (pa_cons (pe_lock (pe_lc (own := [("name", 2)]) (g := (gName 2)) (tt := tYes) (by rfl) nd (pi_keys (pv 1)) (blkOk_by (own := [("name", 2)]) (N := N_check_renaming) (sc := defScope s_check_renaming) (by decide +kernel)) (fun _ _ _ _ _ => pg_name (i := 2) nd rfl (.inl rfl)) (fun _ _ _ _ _ => pts_nil) (fun _ _ _ _ _ => (pe_and (pe_call G (hr.mono (by omega)) (by rfl) T.gis_name T.fis_name.kp T.nis_name .nil pass0 (pa_cons (pv 2) pa_nil)) (pe_one (pe_call G (hr.mono (by omega)) (by rfl) T.gis_name T.fis_name.kp T.nis_name .nil pass0 (pa_cons (pe_dget hu (pv 1) (pv 2) (fun _ _ => rfl)) pa_nil))))))) pa_nil))))))) (pss_one (ps_raise rfl (takes_of rfl rfl rfl rfl) (pmk_own PySem.F.excBase_ValueError T.xInvalidName T.gInvalidName T.kInvalidName (raises_own T.bInvalidName T.tInvalidName) (by rfl)))) pss_nil)
      (pss_one (ps_if (pt_cmpR op_lt (pe_callB call_lenSK (by rfl) T.b_len (by decide +kernel) (pa_cons (pe_lock (pe_scK (own := [("name", 2)]) (g := (gName 2)) (tt := tYes) (by rfl) nd (pi_keys (pv 0)) (blkOk_by (own := [("name", 2)]) (N := N_check_renaming) (sc := defScope s_check_renaming) (by decide +kernel)) (fun _ _ _ _ _ => pg_name (i := 2) nd rfl (.inl rfl)) (fun _ _ _ _ _ => pts_nil) (fun _ _ _ _ _ => (pe_dget2 hu (pv 1) (pv 2) (pv 2) ⟨by rfl, by rfl, by rfl, by rfl⟩)))) pa_nil)) (pe_callB call_lenD (by rfl) T.b_len (by decide +kernel) (pa_cons (pv 0) pa_nil)) (nomark _)) (pss_one (ps_raise rfl (takes_of rfl rfl rfl rfl) (pmk_own PySem.F.excBase_ValueError T.xInvalidOperation T.gInvalidOperation T.kInvalidOperation (raises_own T.bInvalidOperation T.tInvalidOperation) (by rfl)))) pss_nil))), ?_⟩
    rcases h with ⟨bad, q⟩ | ⟨a, m, rfl, npa, ha, hm, ndm, lm, nap, q0⟩
    · cases bad with
      | @dat _ d hx nd2 =>
        refine ⟨v, rfl, v, .ty "dict", _, _, _, rfl, .ty _, hx.ty, kit_ty (kit_dict d), _, rfl, ?_⟩
        cases d with
        | dict _ => cases nd2
        | _ => exact iteT (iteT (q H (Same.refl H)))
      | @dic a es ha he nde l100 bad =>
        refine ⟨_, rfl, _, .ty "dict", _, _, _, rfl, .ty _, .base (.dK ha), kit_ty (by decide +kernel : kitB "dict" "dict" = some true), _, rfl, iteF ?_⟩
        refine ⟨a, .dK (entsD es), ha, trivial, fun od => ⟨_, rfl, a, od, rfl, .inl ⟨entsD es, upd_same, fun D nD => ?_⟩⟩⟩
        have eaL : (upd H a (.frz od (.dK (entsD es)))) a = some (.frz od (.dK (entsD es))) := upd_same
        have bL : ButL [a] H (upd H a (.frz od (.dK (entsD es)))) := ButL.refl.put (List.mem_singleton_self _)
        have daL : ∀ e, e ∈ es → Dx K (upd H a (.frz od (.dK (entsD es)))) e.2.1 e.2.2 := fun e m => (he e m).1.up fun b o hb => by
          obtain ⟨nb, hb⟩ := OffS.of hb
          rw [upd_ne (fun z => nb (by rw [z]; exact List.mem_singleton_self _))]
          exact hb
        generalize upd H a (.frz od (.dK (entsD es))) = L at eaL bL daL nD ⊢
        have naD : a ≠ D := ne_of_none eaL nD
        refine lc_keys (fun i G => Same L G ∧ G D = some (.lst (((es.take i).map okEnt).map V.bl))) ⟨same_put nD, upd_same⟩ (fun i G h => h.1 _ _ eaL) ?_ ?_
        · rintro i k v G hk ⟨sG, eD⟩
          rw [entsD, List.getElem?_map] at hk
          obtain ⟨⟨k2, v2, d2⟩, hxy, e⟩ := Option.map_eq_some_iff.mp hk
          cases e
          have mem := List.mem_of_getElem? hxy
          have lti : i < es.length := (List.getElem?_eq_some_iff.mp hxy).1
          obtain ⟨_, hk1, hk2⟩ := he _ mem
          have dv := daL _ mem
          refine ⟨rfl, (iteT (B := False) ?_ : if true = true then _ else False)⟩
          have fin : ∀ b : Bool, b = okEnt (k2, v2, d2) → ∃ acc, G D = some (.lst acc) ∧ acc.length < sizeLine ∧ Same L (upd G D (.lst (acc ++ [.bl b]))) ∧ (upd G D (.lst (acc ++ [.bl b]))) D = some (.lst (((es.take (i + 1)).map okEnt).map V.bl)) := by
            rintro b rfl
            refine ⟨_, eD, ?_, fun c o hc => ?_, ?_⟩
            · rw [List.length_map, List.length_map]
              exact small1000 (by rw [List.length_take]; omega)
            · rw [upd_ne (ne_of_none hc nD)]
              exact sG c o hc
            · rw [upd_same, List.take_add_one, hxy]
              simp
          refine ⟨_, rfl, _, keyD k2, rfl, ?_, fun z e => Nat.le_trans (hk1 z e) (by decide), _, rfl, ?_⟩
          · cases k2 with
            | inl i => exact .int i
            | inr x => exact .str x
          cases nk : nameD (keyD k2) with
          | false => exact iteF (fin false (by simp [okEnt, nk]))
          | true => exact iteT ⟨_, rfl, _, rfl, a, v2, rfl, .inl ⟨entsD es, k2, .inr ⟨od, sG _ _ eaL⟩, rfl, (val_ents nde mem).symm⟩, v2, d2, rfl, dv.up sG, fun z e => Nat.le_trans (hk2 z e) (by decide), fin _ (by simp [okEnt, nk])⟩
        · rintro G ⟨sG, eD⟩
          refine ⟨sG _ _ eaL, ?_⟩
          have s1 : Same H (upd G a (.dK (entsD es))) := unlocked (bL.trans (ButL.of sG)) ha
          have eD1 : (upd G a (.dK (entsD es))) D = some (.lst ((es.map okEnt).map V.bl)) := by
            rw [upd_ne naD.symm, eD, show (entsD es).length = es.length from List.length_map .., List.take_length]
          refine ⟨D, _, rfl, .inl (.inl eD1), _, rfl, ?_⟩
          rw [show (es.map okEnt).all id = false by simpa using bad]
          exact iteT (q _ s1)
      | @tup a k v ha =>
        refine ⟨_, rfl, _, .ty "dict", _, _, _, rfl, .ty _, .base (.dT ha), kit_ty (by decide +kernel : kitB "dict" "dict" = some true), _, rfl, iteF ?_⟩
        refine ⟨a, .dT [(k, v)], ha, trivial, fun od => ⟨_, rfl, a, od, rfl, .inr ⟨[(k, v)], upd_same, fun D nD => ?_⟩⟩⟩
        have eaL : (upd H a (.frz od (.dT [(k, v)]))) a = some (.frz od (.dT [(k, v)])) := upd_same
        have bL : ButL [a] H (upd H a (.frz od (.dT [(k, v)]))) := ButL.refl.put (List.mem_singleton_self _)
        generalize upd H a (.frz od (.dT [(k, v)])) = L at eaL bL nD ⊢
        have naD : a ≠ D := ne_of_none eaL nD
        refine lc_it walk_keysT (fun i G => Same L G ∧ G D = some (.lst ((List.replicate i false).map V.bl))) ⟨same_put nD, upd_same⟩ (fun i G _ h => h.1 _ _ eaL) ?_ ?_
        · rintro i x G G' hi ⟨sG, eD⟩ ⟨rfl, k3, v3, q3, h3, rfl, hq3⟩
          refine ⟨rfl, (iteT (B := False) ?_ : if true = true then _ else False)⟩
          have dk : ∀ ks : List Key, DxAll K G' (ks.map kV) (ks.map keyD) := fun ks => by
            induction ks with
            | nil => exact .nil
            | cons z zs ih => cases z with
              | inl i => exact .cons (.int i) ih
              | inr x => exact .cons (.str x) ih
          refine ⟨_, rfl, _, .tuple (k3.map keyD), rfl, .tup hq3 (dk k3), fun z e => (nomatch e), _, rfl, iteF ?_⟩
          refine ⟨_, eD, ?_, fun c o hc => ?_, ?_⟩
          · rw [List.length_map, List.length_replicate]
            exact small1000 (by have : i < 1 := hi; omega)
          · rw [upd_ne (ne_of_none hc nD)]
            exact sG c o hc
          · rw [upd_same, List.replicate_succ', List.map_append]
            rfl
        · rintro G ⟨sG, eD⟩
          refine ⟨sG _ _ eaL, ?_⟩
          have s1 : Same H (upd G a (.dT [(k, v)])) := unlocked (bL.trans (ButL.of sG)) ha
          have eD1 : (upd G a (.dT [(k, v)])) D = some (.lst ([false].map V.bl)) := by
            rw [upd_ne naD.symm, eD]
            rfl
          exact ⟨D, _, rfl, .inl (.inl eD1), _, rfl, iteT (q _ s1)⟩
    · refine ⟨_, rfl, _, .ty "dict", _, _, _, rfl, .ty _, .base (.dK ha), kit_ty (by decide +kernel : kitB "dict" "dict" = some true), _, rfl, iteF ?_⟩
      refine ⟨a, .dK (strD m), ha, trivial, fun od => ⟨_, rfl, a, od, rfl, .inl ⟨strD m, upd_same, fun D nD => ?_⟩⟩⟩
      have eaL : (upd H a (.frz od (.dK (strD m)))) a = some (.frz od (.dK (strD m))) := upd_same
      have bL : ButL [a] H (upd H a (.frz od (.dK (strD m)))) := ButL.refl.put (List.mem_singleton_self _)
      have epL : (upd H a (.frz od (.dK (strD m)))) p = some (.dK (dictOf ms)) := by rw [upd_ne npa]; exact hp
      generalize upd H a (.frz od (.dK (strD m))) = L at eaL bL epL nD ⊢
      have naD : a ≠ D := ne_of_none eaL nD
      refine lc_keys (fun i G => Same L G ∧ G D = some (.lst ((List.replicate i true).map V.bl))) ⟨same_put nD, upd_same⟩ (fun i G h => h.1 _ _ eaL) ?_ ?_
      · rintro i k v G hk ⟨sG, eD⟩
        rw [strD, List.getElem?_map] at hk
        obtain ⟨⟨x, y⟩, hxy, e⟩ := Option.map_eq_some_iff.mp hk
        cases e
        have mem := List.mem_of_getElem? hxy
        have lti : i < m.length := (List.getElem?_eq_some_iff.mp hxy).1
        obtain ⟨nx, ny⟩ := hm x y mem
        have short : ∀ {z : Str}, isNm z = true → z.length ≤ sizeLine := fun {z} h => by
          simp only [isNm, Bool.and_eq_true, decide_eq_true_eq] at h
          exact Nat.le_trans h.1.2 (by decide)
        refine ⟨rfl, (iteT (B := False) ?_ : if true = true then _ else False)⟩
        refine ⟨_, rfl, _, .str x, rfl, .str x, fun z e => by cases e; exact short nx, _, rfl, ?_⟩
        rw [show nameD (.str x) = true from nx]
        refine iteT ⟨_, rfl, _, rfl, a, .str y, rfl, .inl ⟨strD m, .inr x, .inr ⟨od, sG _ _ eaL⟩, rfl, ?_⟩, _, .str y, rfl, .str y, fun z e => by cases e; exact short ny, ?_⟩
        · rw [val_strD, look_mem ndm mem]
          rfl
        · refine ⟨_, eD, ?_, fun c o hc => ?_, ?_⟩
          · rw [List.length_map, List.length_replicate]
            exact small1000 (by omega)
          · rw [upd_ne (ne_of_none hc nD)]
            exact sG c o hc
          · rw [upd_same, show nameD (.str y) = true from ny, List.replicate_succ', List.map_append]
            rfl
      · rintro G ⟨sG, eD⟩
        refine ⟨sG _ _ eaL, ?_⟩
        have s1 : Same H (upd G a (.dK (strD m))) := unlocked (bL.trans (ButL.of sG)) ha
        have eD1 : (upd G a (.dK (strD m))) D = some (.lst ((List.replicate (strD m).length true).map V.bl)) := by
          rw [upd_ne naD.symm]
          exact eD
        generalize upd G a (.dK (strD m)) = H1 at s1 eD1 ⊢
        refine ⟨D, _, rfl, .inl (.inl eD1), _, rfl, ?_⟩
        rw [show (List.replicate (strD m).length true).all id = true by simp]
        refine iteF ?_
        -- the second test
        have hp1 := s1 _ _ hp
        have ha1 := s1 _ _ ha
        refine ⟨p, .dK (dictOf ms), hp1, trivial, fun od => ⟨_, rfl, p, od, rfl, .inl ⟨dictOf ms, upd_same, fun D2 nD2 => ?_⟩⟩⟩
        have epL : (upd H1 p (.frz od (.dK (dictOf ms)))) p = some (.frz od (.dK (dictOf ms))) := upd_same
        have bL2 : ButL [p] H1 (upd H1 p (.frz od (.dK (dictOf ms)))) := ButL.refl.put (List.mem_singleton_self _)
        have eaL2 : (upd H1 p (.frz od (.dK (dictOf ms)))) a = some (.dK (strD m)) := by rw [upd_ne npa.symm]; exact ha1
        generalize upd H1 p (.frz od (.dK (dictOf ms))) = L2' at epL bL2 eaL2 nD2 ⊢
        have npD : p ≠ D2 := ne_of_none epL nD2
        refine sck_keys (fun i G2 => Same L2' G2 ∧ ∃ (L : List Str) (S : Key → Bool), G2 D2 = some (L2.SetK P w D2 S L.length) ∧ L.Nodup ∧ (∀ k, S k = decide (∃ z, z ∈ L ∧ k = Sum.inr z)) ∧ L.length ≤ i ∧ ∀ z, z ∈ L ↔ z ∈ ((ms.take i).map Prod.fst).map (nmOf m))
          ⟨same_put nD2, [], fun _ => false, upd_same, List.nodup_nil, fun k => by simp, Nat.zero_le _, fun z => by simp⟩ (fun i G2 h => h.1 _ _ epL) ?_ ?_
        · rintro i k v G2 hk ⟨sG2, L, S, eD2, ndL, hS, lL, mL⟩
          rw [dictOf, List.getElem?_map] at hk
          obtain ⟨⟨x, n⟩, hxn, e⟩ := Option.map_eq_some_iff.mp hk
          cases e
          have lti : i < ms.length := (List.getElem?_eq_some_iff.mp hxn).1
          refine ⟨rfl, (iteT (B := False) ?_ : if true = true then _ else False)⟩
          refine ⟨_, rfl, a, rfl, .inl ⟨_, .inl (sG2 _ _ eaL2)⟩, _, rfl, _, rfl, _, .inl ⟨strD m, .inr x, .inl (sG2 _ _ eaL2), rfl, rfl⟩, .inr (nmOf m x), S, L.length, ?_, eD2, Nat.lt_of_le_of_lt (show L.length + 1 ≤ 1001 by omega) (by decide), fun c o hc => ?_, ?_⟩
          · rw [val_strD]
            exact look_getD m x
          · rw [upd_ne (ne_of_none hc nD2)]
            exact sG2 c o hc
          · have et : ((ms.take (i + 1)).map Prod.fst).map (nmOf m) = ((ms.take i).map Prod.fst).map (nmOf m) ++ [nmOf m x] := by
              rw [List.take_add_one, hxn]
              simp
            by_cases inL : nmOf m x ∈ L
            · have e1 : S (.inr (nmOf m x)) = true := by
                rw [hS]
                exact decide_eq_true ⟨_, inL, rfl⟩
              refine ⟨L, fun j => S j || decide (j = Sum.inr (nmOf m x)), by rw [upd_same, if_pos e1]; rfl, ndL, fun k => ?_, by omega, fun z => ?_⟩
              · show (S k || decide (k = Sum.inr (nmOf m x))) = _
                rw [hS]
                by_cases e : k = Sum.inr (nmOf m x)
                · rw [e]
                  simp [inL]
                · simp [e]
              · rw [et, List.mem_append, ← mL, List.mem_singleton]
                exact ⟨.inl, fun h => h.elim id fun e => by rw [e]; exact inL⟩
            · have e1 : ¬ S (.inr (nmOf m x)) = true := by
                rw [hS]
                simp [inL]
              refine ⟨L ++ [nmOf m x], fun j => S j || decide (j = Sum.inr (nmOf m x)), by rw [upd_same, if_neg e1, List.length_append]; rfl, ?_, fun k => ?_, by rw [List.length_append, List.length_singleton]; omega, fun z => ?_⟩
              · rw [List.nodup_append]
                refine ⟨ndL, by simp, fun c hc b hb => ?_⟩
                rw [List.mem_singleton.mp hb]
                rintro rfl
                exact inL hc
              · show (S k || decide (k = Sum.inr (nmOf m x))) = _
                rw [hS, ← Bool.decide_or, decide_eq_decide]
                constructor
                · rintro (⟨z, h1, h2⟩ | h)
                  · exact ⟨z, List.mem_append_left _ h1, h2⟩
                  · exact ⟨_, by simp, h⟩
                · rintro ⟨z, h1, h2⟩
                  rcases List.mem_append.mp h1 with h1 | h1
                  · exact .inl ⟨z, h1, h2⟩
                  · rw [List.mem_singleton.mp h1] at h2
                    exact .inr h2
              · rw [et, List.mem_append, List.mem_append, mL]
        · rintro G2 ⟨sG2, L, S, eD2, ndL, hS, lL, mL⟩
          refine ⟨sG2 _ _ epL, ?_⟩
          have s2 : Same H1 (upd G2 p (.dK (dictOf ms))) := unlocked (bL2.trans (ButL.of sG2)) hp1
          have eD3 : (upd G2 p (.dK (dictOf ms))) D2 = some (L2.SetK P w D2 S L.length) := by
            rw [upd_ne npD.symm]
            exact eD2
          generalize upd G2 p (.dK (dictOf ms)) = H2 at s2 eD3 ⊢
          have ld : (dictOf ms).length = ms.length := List.length_map ..
          rw [ld, List.take_length] at mL
          have fin := once_len ((ms.map Prod.fst).map (nmOf m)) L ndL mL
          rw [List.length_map, List.length_map] at fin
          refine ⟨D2, S, L.length, rfl, eD3, _, rfl, p, dictOf ms, rfl, s2 _ _ hp1, _, _, rfl, rfl, _, rfl, ?_⟩
          rw [ld]
          by_cases ap : Apart m (ms.map Prod.fst)
          · exact absurd ap nap
          · have e1 : L.length ≠ ms.length := fun z => ap (fin.2.mp z)
            rw [show decide ((L.length : Int) < (ms.length : Int)) = true from decide_eq_true (by omega)]
            exact iteT (q0 H2 (s1.trans s2))
end
end K05
/-! def f(x, **names): the keywords' dict. -/
namespace Kx
open PySem PySem.Spec PyProof.Rows L2
section
variable {P : Program} {w : World} {A : Around} {E : Value → Shared → Prop} {s : Shared} {d : Addr}
theorem mapM_str {kvs : List (Key × Value)} {es : List DictEntry} (p : Pairs (mixKind P w) es kvs) {x : Str} (n : ∀ v, (Sum.inr x, v) ∉ kvs) : (∀ e ∈ es, e.key.isStr x = false) ∧ ∀ e ∈ es, e.refKey = false := by
  induction p with
  | nil => exact ⟨fun e h => (nomatch h), fun e h => (nomatch h)⟩
  | @cons e kv es kvs h1 h2 t ih =>
    obtain ⟨i1, i2⟩ := ih fun v hv => n v (List.mem_cons_of_mem _ hv)
    have h1 : keyIs kv.1 e.key = true := h1
    constructor
    · intro c hc
      rcases List.mem_cons.mp hc with q | hc
      · subst q
        rcases keyIs_shape h1 with ⟨i, tk, _, ek⟩ | ⟨y, tk, ey, ek⟩
        · rw [ek]
          rfl
        · rw [ek]
          show (y == x) = false
          refine beq_eq_false_iff_ne.mpr fun q => n kv.2 ?_
          rw [← q, ← ey]
          exact List.mem_cons_self
      · exact i1 c hc
    · intro c hc
      rcases List.mem_cons.mp hc with q | hc
      · subst q
        rcases keyIs_shape h1 with ⟨i, tk, _, ek⟩ | ⟨y, tk, ey, ek⟩ <;> (unfold DictEntry.refKey; rw [ek])
      · exact i2 c hc
theorem nsSet_dict {kvs : List (Key × Value)} {x : Str} {v : Value} {Q : Unit → Shared → Prop} (dd : s.heap.DictOf (mixKind P w) d kvs) (n : ∀ v, (Sum.inr x, v) ∉ kvs)
    (h : ∀ h' t', h'.DictOf (mixKind P w) d (kvs ++ [(Sum.inr x, v)]) → Heap.SameBut d s.heap h' → Q () { s with heap := h', toks := t' }) : wpAny (model P w) A (nsSet d x v) Q E s := by
  obtain ⟨o, es, ep, ho, ⟨e1, e2, e3⟩, hd, hk, hp, nod⟩ := dd
  obtain ⟨cl, dc, dt, sl⟩ := o
  dsimp only at e1 e2 e3 hd
  subst e1 e2 e3 hd
  obtain ⟨m1, m2⟩ := mapM_str hp n
  have a1 : es.any (·.key.isStr x) = false := by
    rw [← Array.any_toList, List.any_eq_false]
    exact fun e he => by rw [m1 e he]; simp
  have a2 : es.any (·.refKey) = false := by
    rw [← Array.any_toList, List.any_eq_false]
    exact fun e he => by rw [m2 e he]; simp
  have c : aRefKeyMayBeTheName x es = false := by rw [aRefKeyMayBeTheName_at, a1, a2]; rfl
  have pn : ∀ (hs : Int) (key : Value), Obj.putName x hs key v { cls := .type "dict", dict := none, data := .dict es ep, slots := #[] } = { cls := .type "dict", dict := none, data := .dict (es.push ⟨hs, key, v⟩) (ep + 1), slots := #[] } := fun hs key => by
    have z := PySem.W.putName_dict x hs key v es.toList ep
    unfold PySem.W.dictOf at z
    rw [Array.toArray_toList] at z
    rw [z, PySem.W.putL_new m1]
    unfold PySem.W.putN
    have : es.toList.any (·.key.isStr x) = false := by rw [Array.any_toList]; exact a1
    simp [this]
    exact Array.ext' (by simp)
  unfold nsSet strHash
  refine wpAny_bind (wpAny_bind (wpAny_askSetting (wpAny_pure (wpAny_bind (wpAny_mkText (wpAny_bind (wpAny_loadPart ho ?_)))))))
  dsimp only
  rw [c]
  refine wpAny_updatePart ho (h _ _ ?_ ⟨by simp [Heap.update], fun b hb => Heap.get?_update_other _ _ (fun z => hb z.symm)⟩)
  refine ⟨{ cls := .type "dict", dict := none, data := .dict (es.push ⟨hashStr w x, .str x s.toks, v⟩) (ep + 1), slots := #[] }, es.push ⟨hashStr w x, .str x s.toks, v⟩, ep + 1, ?_, ⟨rfl, rfl, rfl⟩, rfl, hk.push (k := Sum.inr x) (key := .str x s.toks) (show keyIs (Sum.inr x) (.str x s.toks) = true from keyIs_str x _) v, ?_, ?_⟩
  · rw [Heap.get?_update_self _ ho (by rw [pn]; rfl), pn]
    rfl
  · rw [Array.toList_push]
    have : ∀ {es : List DictEntry} {kvs : List (Key × Value)}, Pairs (mixKind P w) es kvs → Pairs (mixKind P w) (es ++ [⟨hashStr w x, .str x s.toks, v⟩]) (kvs ++ [(Sum.inr x, v)]) := by
      intro es kvs p
      induction p with
      | nil => exact .cons (show keyIs (Sum.inr x) (.str x s.toks) = true from keyIs_str x _) rfl .nil
      | cons h1 h2 _ ih => exact .cons h1 h2 ih
    exact this hp
  · rw [List.map_append, List.nodup_append]
    refine ⟨nod, by simp, fun a ha b hb => ?_⟩
    simp at hb
    subst hb
    rintro rfl
    obtain ⟨⟨k1, v1⟩, m, e⟩ := List.mem_map.mp ha
    dsimp only at e
    subst e
    exact n v1 m
/-- the keywords are put in, one by one -/
theorem fill_dict {Q : PUnit → Shared → Prop} : ∀ (l : List (Str × Value)) (s : Shared) (kvs : List (Key × Value)), s.heap.DictOf (mixKind P w) d kvs → (l.map Prod.fst).Nodup → (∀ p, p ∈ l → ∀ v, (Sum.inr p.1, v) ∉ kvs) →
    (∀ h' t', h'.DictOf (mixKind P w) d (kvs ++ l.map fun p => (Sum.inr p.1, p.2)) → Heap.SameBut d s.heap h' → Q PUnit.unit { s with heap := h', toks := t' }) →
    wpAny (model P w) A (forIn l PUnit.unit fun x _ => (nsSet d x.1 x.2 >>= fun _ => pure (ForInStep.yield PUnit.unit))) Q E s
  | [], s, kvs, dd, _, _, h => by
    rw [List.forIn_nil]
    exact wpAny_pure (h s.heap s.toks (by simpa using dd) (Heap.SameBut.refl _ _))
  | p :: l, s, kvs, dd, nd, n, h => by
    rw [List.map_cons, List.nodup_cons] at nd
    rw [List.forIn_cons]
    refine wpAny_bind (wpAny_bind (nsSet_dict dd (n p List.mem_cons_self) fun h' t' dd' sb => wpAny_pure ?_))
    refine fill_dict l { s with heap := h', toks := t' } _ dd' nd.2 (fun q hq v hv => ?_) fun h'' t'' dd'' sb' => ?_
    · rcases List.mem_append.mp hv with hv | hv
      · exact n q (List.mem_cons_of_mem _ hq) v hv
      · have e := List.mem_singleton.mp hv
        rw [Prod.mk.injEq] at e
        have e1 := Sum.inr.inj e.1
        exact nd.1 (by rw [← e1]; exact List.mem_map.mpr ⟨q, hq, rfl⟩)
    · refine h h'' t'' ?_ (sb.trans sb')
      rw [List.append_assoc] at dd''
      exact dd''
end
/-- the keywords as a dict -/
def kwD (ks : List Str) (zs : List V) : List (Key × V) := (ks.zip zs).map fun p => (Sum.inr p.1, p.2)
section
variable {CX : CXT} {P : Program} {w : World} {K : PySem.W.Frag} {mg : Str → Option Value} {base : Heap} {k : Nat} {f : Addr} {name qual : Str} {params : Arguments} {body : List Stmt} {scope : Scope} {dV kV doc pm cdv ct oc : Value} {an od : Option Addr}
  {osl : Array (Option Value)} {N ks : List Str} {sp : Sp} {p1 pd : Str}
theorem kwD_rel {ks : List Str} {zs : List V} {ws : List Value} (r : Vals zs ws) : KV (kwD ks zs) ((ks.zip ws).map fun p => (Sum.inr p.1, p.2)) := by
  induction r generalizing ks with
  | nil =>
    cases ks <;> exact .nil
  | cons h t ih =>
    cases ks with
    | nil => exact .nil
    | cons a ks => exact .cons ⟨rfl, h⟩ ih
/-- def f(x, **names) called with the keywords ks -/
theorem run_kw (lk : K.lookup f = some ⟨oc, od, .func (PySem.W.fnOf name qual params body scope dV kV doc pm an cdv ct), osl⟩) (hcd : PySem.W.codeIn K cdv qual = true) (S : FnScope N [p1, pd] scope) (hCX : StX.CXUp CX) (nk : ks.Nodup) (few : ks.length ≤ 100)
    (hb : ∀ (u : Value) (ws : List Value), ws.length = ks.length → bindArgs (PySem.W.fnOf name qual params body scope dV kV doc pm an cdv ct) ⟨[u], ks.zip ws⟩ =
      ((alloc ({ cls := .type "dict", data := .dict #[] } : Obj) : Sem Addr) >>= fun d => (forIn (ks.zip ws) PUnit.unit fun x _ => (nsSet d x.1 x.2 >>= fun _ => pure (ForInStep.yield PUnit.unit))) >>= fun _ => pure [(p1, u), (pd, Value.ref d)]))
    (hbody : ∀ (A : Around) (outer : List Env) (s : Shared) (H : Hp) (vs : List V) (Q : VK) (E : XK), Room k (A.deeper (envOfC qual scope s.heap.objs.size f cdv)) → sp vs H Q E →
      ∃ t, PSs (cxOf CX P w K mg base N qual scope f cdv A outer s H E) body t ∧ t { nx := fun _ H' => Q .non H', rt := Q } (L2.start N vs) H)
    {A : Around} {outer : List Env} {s : Shared} {H : Hp} {u : Value} {v : V} {ws : List Value} {zs : List V} {Q : VK} {E : XK} (hr : Room (k + 1) A) (e0 : Env0 P w K mg base A outer s H) (ru : RelV v u) (rz : Vals zs ws) (lz : zs.length = ks.length)
    (h : ∀ d, H d = none → sp [v, .ref d] (upd H d (.dK (kwD ks zs))) Q E) : codeAny (model P w) A (.call (.ref f) ⟨[u], ks.zip ws⟩) (CR CX outer P w H s Q E) s := by
  have hn : H s.heap.objs.size = none := e0.hok.fresh (Nat.le_refl _)
  have lw : ws.length = ks.length := by rw [← rz.length]; exact lz
  refine StX.run_bnd lk hcd S hr e0 (G := fun xs H2 => ∃ d, H d = none ∧ xs = [v, .ref d] ∧ H2 = upd H d (.dK (kwD ks zs))) (fun A' Ex Q' q => ?_) fun s2 H2 xs ⟨d, hd, ex, eH⟩ hr' => ?_
  · rw [hb u ws lw]
    refine wpAny_bind (wpAny_alloc (wpAny_bind (fill_dict (ks.zip ws) _ [] (Heap.DictOf.new s.heap) ?_ (fun _ _ _ h => nomatch h) fun h' t' dd sb => wpAny_pure ?_)))
    · rw [List.map_fst_zip (by omega)]
      exact nk
    · have kp : ∀ b o, s.heap.get? b = some o → h'.get? b = some o := fun b o e => (sb.2 b (Nat.ne_of_lt (Heap.lt_size e))).trans (Heap.get?_push_of_some _ e)
      have big := StX.env0_big e0
      have ln : (kwD ks zs).length ≤ 100 := by
        rw [kwD, List.length_map, List.length_zip]
        omega
      have new : ObjOk P w (upd H s.heap.objs.size (.dK (kwD ks zs))) h' s.heap.objs.size (.dK (kwD ks zs)) :=
        dk_new (Nat.le_trans ln (by decide)) (beq_eq_false_iff_ne.mpr (Ne.symm (Nat.ne_of_lt big))) (kwD_rel rz) (by simpa using dd)
      have un : Un (frs outer) [] H (upd H s.heap.objs.size (.dK (kwD ks zs))) s.heap h' := Un.laid kp (Nat.le_refl _) hn
      have e1 : Env0 P w K mg base A outer { s with heap := h', toks := t' } (upd H s.heap.objs.size (.dK (kwD ks zs))) := by
        refine ⟨e0.frames, e0.mod, fun b o e => ⟨kp b o (e0.bs b o e).1, ?_⟩, ?_, Heap.FunFrames.of_keeps (fun b o e _ => ⟨o, kp b o e, rfl⟩) e0.funs, fun b hb => ?_, e0.hok.laid kp (Nat.le_refl _) new, e0.bare⟩
        · rw [upd_ne (Nat.ne_of_lt (Heap.lt_size (e0.bs b o e).1))]
          exact (e0.bs b o e).2
        · have z := sb.1
          show base.objs.size ≤ h'.objs.size
          rw [z, Heap.size_push]
          exact Nat.le_succ_of_le e0.bsz
        · obtain ⟨_, o, ho, _⟩ := e0.funs.mem hb
          rw [upd_ne (Nat.ne_of_lt (Heap.lt_size ho))]
          exact e0.frf b hb
      exact q _ _ [v, .ref s.heap.objs.size] [u, .ref s.heap.objs.size] e1 un rfl (fun e s' => hCX outer s H _ _ E e s' un kp rfl) (.cons ru (.cons rfl .nil)) rfl ⟨_, hn, rfl, rfl⟩
  · subst ex eH
    exact hbody A outer s2 _ _ Q E hr' (h d hd)
/-- a def f(x, **names) keeps sp, called with the keywords ks -/
def KwR (P : Program) (w : World) (K : PySem.W.Frag) (mg : Str → Option Value) (base : Heap) (CX : CXT) (k : Nat) (f : Addr) (ks : List Str) (sp : Sp) : Prop :=
  ∀ (A : Around) (outer : List Env) (s : Shared) (H : Hp) (u : Value) (v : V) (ws : List Value) (zs : List V) (Q : VK) (E : XK), Room k A → Env0 P w K mg base A outer s H → RelV v u → Vals zs ws → zs.length = ks.length →
    (∀ d, H d = none → sp [v, .ref d] (upd H d (.dK (kwD ks zs))) Q E) → codeAny (model P w) A (.call (.ref f) ⟨[u], ks.zip ws⟩) (CR CX outer P w H s Q E) s
theorem KwR.none (R : KwR P w K mg base CX k f [] sp) : L2.FnR P w K mg base CX k f (fun vs H Q E => ∃ v, vs = [v] ∧ ∀ d, H d = none → sp [v, .ref d] (upd H d (.dK [])) Q E) := by
  intro A outer s H us vs Q E hr e0 r h
  obtain ⟨v, rfl, h⟩ := h
  obtain ⟨u, rfl, ru⟩ := r.one
  exact R A outer s H u v [] [] Q E hr e0 ru .nil rfl h
end
section
variable {X : Cx} {CX : CXT} {k : Nat} {f : Addr} {ks : List Str} {sp : Sp} {E : XK} {x : Str} {p pos : Pos} {e : Expr} {kws : List Keyword} {t tk : TA}
theorem pe_callKw (R : KwR X.prog X.w X.K X.mg X.base CX k f ks sp) (hr : Room k X.A) (hg : Gl X x) (hm : X.mg x = some (.ref f)) (hk : PySem.W.keepIn X.K (.ref f) = true) (hx : Passes CX X E) (ha : PA X [e] t) (hkw : PK X kws tk)
    (hall : (backToKw pos (keywordEach kws X.env)).all (·.1.isSome) = true := by rfl) (hks : (backToKw pos (keywordEach kws X.env)).filterMap (·.1) = ks := by rfl) (hdb : (x == ("__debug__" : Str)) = false := by decide)
    (he : starEach [e] X.env = (false, eval e X.env) :: starEach [] X.env := by rfl) (hpl : ((backTo pos (starEach [e] X.env)).any (·.1) || (backToKw pos (keywordEach kws X.env)).any (·.1.isNone)) = false := by rfl) :
    PE X (.Call (.Name x p) [e] kws pos) (fun σ H Q => t σ H fun vs H1 => tk σ H1 fun zs H2 => ∃ v, vs = [v] ∧ zs.length = ks.length ∧ ∀ d, H2 d = none → sp [v, .ref d] (upd H2 d (.dK (kwD ks zs))) Q E) := by
  refine ⟨fun pins s σ H Q I h => wpAny_Call_Name_kw (ld_glob I hg hm ?_ hdb)⟩
  refine PySem.W.callWith_KW (h₀ := X.base) I.ok.mod.kin hk hall (thn (ha.run pos pins s σ H _ I h) fun us s1 ⟨vs, H1, I1, r, q⟩ => ?_) hpl he
  refine thn (hkw.run pos pins s1 σ H1 _ I1 q) fun ws s2 ⟨zs, H2, I2, rz, v, ev, lz, q2⟩ => ⟨I2.kIn, ?_⟩
  subst ev
  obtain ⟨u, rfl, ru⟩ := r.one
  rw [hks]
  refine wpAny_call (codeAny_mono (R X.A X.stack s2 H2 u v ws zs Q E hr I2.env0 ru rz lz q2) fun r s' hq => ?_)
  cases r with
  | error e => exact hx pins σ H2 s2 e s' I2 hq
  | ok fl =>
    cases fl with
    | ret u => exact I2.after hq
    | _ => exact hq.elim
end
end Kx
/-! What the functions raise: terms made, names changed. -/
namespace K05
open PySem PySem.Spec PyProof.Rows L2 Kx
theorem not_nodup {α β : Type} {f : α → β} {x y : α} (ne : x ≠ y) (e : f x = f y) : ∀ {l : List α}, x ∈ l → y ∈ l → ¬ (l.map f).Nodup
  | z :: l, hx, hy, h => by
    rw [List.map_cons, List.nodup_cons] at h
    rcases List.mem_cons.mp hx with hx | hx
    · rcases List.mem_cons.mp hy with hy | hy
      · exact ne (hx.trans hy.symm)
      · exact h.1 (by rw [← hx, e]; exact List.mem_map.mpr ⟨y, hy, rfl⟩)
    · rcases List.mem_cons.mp hy with hy | hy
      · exact h.1 (by rw [← hy, ← e]; exact List.mem_map.mpr ⟨x, hx, rfl⟩)
      · exact not_nodup ne e hx hy h.2
section
variable {P : Program} {w : World} {K : PySem.W.Frag} {mg : Str → Option Value} {base : Heap}
theorem short_of {d : PyData} (h : shortD d = true) : ∀ y, d = .str y → y.length ≤ sizeLine := fun y e => by
  subst e
  simp only [shortD, decide_eq_true_eq] at h
  exact Nat.le_trans h (by decide)
/-- the name, the tuple of the terms; no term comes of it -/
def spMkB (K : PySem.W.Frag) (CN CT : Addr) : Sp := fun vs H Q E => ∃ (x : V) (d : PyData) (a : Addr) (ws : List V) (ds : List PyData), vs = [x, .ref a] ∧ H a = some (.tup ws) ∧ Dx K H x d ∧ DxAll K H ws ds ∧ shortD (.tuple (d :: ds)) = true ∧ szD (.tuple (d :: ds)) ≤ 100000 ∧ ds.length ≤ 100 ∧
  (nameD d = false → ∀ H', Same H H' → E (.ref CN) none H') ∧ (nameD d = true → termD (.tuple (d :: ds)) = false ∧ ∀ H', Same H H' → E (.ref CT) none H')
def spMk (K : PySem.W.Frag) (CN CT : Addr) : Sp := fun vs H Q E => ∃ ws rest, vs = ws ++ rest ∧ ws.length = 1 ∧ rest.length ≤ sizeLine ∧ ∀ p, H p = none → spMkB K CN CT (ws ++ [V.ref p]) (upd H p (.tup rest)) Q E
theorem ok_make (T : Tx K mg) : L2.FnR P w K mg base (L2.CX P w) 6 T.amake_term (spMk K T.CInvalidName T.CInvalidTerm) := by
  have nd := sc_make_term.nd
  have G1 := ok_name (P := P) (w := w) (base := base) T
  have G2 := ok_ck (P := P) (w := w) (base := base) T
  obtain ⟨oc, od, kV, doc, pm, an, cdv, ct, osl, e, lk, hcd⟩ := T.fmake_term.ex
  rw [e] at lk
  refine StX.fn_star (ps := ["name"]) (pv := "terms") (sp := spMkB K T.CInvalidName T.CInvalidTerm) lk hcd sc_make_term StX.cxUp (fun us rest h => ?_) (fun A outer s H vs Q E hr h => ?_)
  · match us, h with
    | [u], _ => cases rest <;> rfl
  obtain ⟨x, d, a, ws, ds, rfl, ha, hx, hw, hs, hz, h100, q0, q1⟩ := h
  refine ⟨_, (pss_cons (ps_if (pt_not (pt_val (pe_call G1 (hr.mono (by omega)) (by rfl) T.gis_name T.fis_name.kp T.nis_name .nil pass0 (pa_cons (pv 0) pa_nil)))) (pss_one (ps_raise rfl (takes_of rfl rfl rfl rfl) (pmk_own PySem.F.excBase_ValueError T.xInvalidName T.gInvalidName T.kInvalidName (raises_own T.bInvalidName T.tInvalidName) (by rfl)))) pss_nil)
      (pss_cons (ps_set (i := 2) nd rfl (.inl rfl) (pe_tup (pa_cons (pv 0) (StX.pa_star (pv 1) pa_nil))))
      (pss_cons (ps_expr (pe_call G2 (hr.mono (by omega)) (by rfl) T.gcheck_term T.fcheck_term.kp T.ncheck_term .nil (passes_call (takes_of rfl rfl rfl rfl) (fun _ _ _ _ h => h)) (pa_cons (pv 2) pa_nil)))
      pss_false))), ?_⟩
  have hs' : shortD d = true ∧ shortAll ds = true := by simpa [shortD, shortAll] using hs
  have lw := hw.length
  refine ⟨_, rfl, x, d, rfl, hx, short_of hs'.1, _, rfl, ?_⟩
  cases nk : nameD d with
  | false => exact iteT (q0 nk H (Same.refl H))
  | true =>
    obtain ⟨td, q1⟩ := q1 nk
    refine iteF ⟨_, rfl, _, rfl, a, ws, rfl, .inl (SqT.of ha), ?_, fun p np => ?_⟩
    · rw [List.append_nil, List.length_cons]
      exact Nat.le_of_lt (small1000 (by omega))
    rw [List.append_nil]
    have sm := same_new (o := .tup (x :: ws)) np
    exact ⟨_, rfl, _, _, rfl, ⟨.tup upd_same (.cons (hx.up sm) (hw.up sm)), hs, hz⟩, noB td, fun _ H' sm' => q1 H' (sm.trans sm')⟩
/-- a tuple of values, one of which is no name -/
def spCellsB (K : PySem.W.Frag) (CN : Addr) : Sp := fun vs H Q E => ∃ (a : Addr) (ws : List V) (ds : List PyData), vs = [.ref a] ∧ H a = some (.tup ws) ∧ DxAll K H ws ds ∧ shortAll ds = true ∧ ds.all nameD = false ∧ ∀ H', Same H H' → E (.ref CN) none H'
def spCells (K : PySem.W.Frag) (CN : Addr) : Sp := fun vs H Q E => ∃ ws rest, vs = ws ++ rest ∧ ws.length = 0 ∧ rest.length ≤ sizeLine ∧ ∀ p, H p = none → spCellsB K CN (ws ++ [V.ref p]) (upd H p (.tup rest)) Q E
theorem ok_cells (T : Tx K mg) : L2.FnR P w K mg base (L2.CX P w) 2 T.amake_cells (spCells K T.CInvalidName) := by
  have nd := sc_make_cells.nd
  have G1 := ok_name (P := P) (w := w) (base := base) T
  obtain ⟨oc, od, kV, doc, pm, an, cdv, ct, osl, e, lk, hcd⟩ := T.fmake_cells.ex
  rw [e] at lk
  refine StX.fn_star (ps := []) (pv := "names") (sp := spCellsB K T.CInvalidName) lk hcd sc_make_cells StX.cxUp (fun us rest h => ?_) (fun A outer s H vs Q E hr h => ?_)
  · cases us with
    | nil => cases rest <;> rfl
    | cons => cases h
  obtain ⟨a, ws, ds, rfl, ha, hw, hs, hn, q⟩ := h
  refine ⟨_, (pss_cons (ps_for (passes_of rfl) rfl (pi_tup (pv 0)) (pg_name (i := 1) nd rfl (.inl rfl)) (pss_one (ps_if (pt_not (pt_val (pe_call G1 (hr.mono (by omega)) (by rfl) T.gis_name T.fis_name.kp T.nis_name .nil pass0 (pa_cons (pv 1) pa_nil)))) (pss_one (ps_raise rfl (takes_of rfl rfl rfl rfl) (pmk_own PySem.F.excBase_ValueError T.xInvalidName T.gInvalidName T.kInvalidName (raises_own T.bInvalidName T.tInvalidName) (by rfl)))) pss_nil)))
      pss_false), ?_⟩
  refine ⟨_, rfl, a, rfl, ⟨_, SqT.of ha⟩, for_tup (K := K) (a := a) (xs := ws) (fun i σ H2 => H2 = H ∧ (ds.take i).all nameD = true ∧ ∃ y, σ = [some (.ref a), y]) ⟨rfl, rfl, none, rfl⟩ (fun i σ H2 _ h => by rw [h.1]; exact SqT.of ha) ?_ ?_⟩
  · rintro i y σ H2 hi ⟨rfl, hi1, z, rfl⟩
    have lw := hw.length
    have lt : i < ds.length := by
      rw [← lw]
      exact (List.getElem?_eq_some_iff.mp hi).1
    obtain ⟨v2, hv, dv⟩ := hw.get (List.getElem?_eq_getElem lt)
    rw [hi] at hv
    cases hv
    have sh : shortD ds[i] = true := by
      have : ∀ {l : List PyData} {d : PyData}, shortAll l = true → d ∈ l → shortD d = true := by
        intro l
        induction l with
        | nil => exact fun _ h => (nomatch h)
        | cons e l ih =>
          intro d h m
          rw [shortAll, Bool.and_eq_true] at h
          rcases List.mem_cons.mp m with m | m
          · rw [m]; exact h.1
          · exact ih h.2 m
      exact this hs (List.getElem_mem lt)
    refine ⟨_, rfl, y, ds[i], rfl, dv, short_of sh, _, rfl, ?_⟩
    cases nk : nameD ds[i] with
    | false => exact iteT (q _ (Same.refl _))
    | true => exact iteF ⟨rfl, by rw [List.take_add_one, List.getElem?_eq_getElem lt, List.all_append, hi1]; simp [nk], _, rfl⟩
  · rintro σ H2 ⟨rfl, h, y, rfl⟩
    rw [hw.length, List.take_length, hn] at h
    cases h
/-- no term; or a term and what is no dict of names; or names that become one -/
def spRb (K : PySem.W.Frag) (CN CT CO : Addr) : Sp := fun vs H Q E => ∃ (x v : V) (d : PyData), vs = [x, v] ∧ Dz K H x d ∧
  ((termD d = false ∧ ∀ H', Same H H' → E (.ref CT) none H') ∨ (termD d = true ∧ szD d ≤ 1000 ∧ BadNm K H v ∧ ∀ H', Same H H' → E (.ref CN) none H') ∨
    ∃ (a : Addr) (m : List (Str × Str)) (y z : Str), termD d = true ∧ szD d ≤ 1000 ∧ v = .ref a ∧ H a = some (.dK (strD m)) ∧ (∀ x y, (x, y) ∈ m → isNm x = true ∧ isNm y = true) ∧ (m.map Prod.fst).Nodup ∧ m.length ≤ 1000 ∧
      y ≠ z ∧ y ∈ (rowsD d).map Prod.fst ∧ z ∈ (rowsD d).map Prod.fst ∧ nmOf m y = nmOf m z ∧ ∀ H', Same H H' → E (.ref CO) none H')
theorem ok_rb (T : Tx K mg) : FnOk P w K mg base (L2.CX P w) 6 T.arenamed_by T.drenamed_by ["term", "names"] (spRb K T.CInvalidName T.CInvalidTerm T.CInvalidOperation) := by
  have nd := sc_renamed_by.nd
  have G := ok_ck (P := P) (w := w) (base := base) T
  have G1 := ok_joint (P := P) (w := w) (base := base) T
  have G2 := ok_rn (P := P) (w := w) (base := base) T
  refine T.frenamed_by.okX sc_renamed_by (fun vs H Q E h => ?_) (fun cdv A outer s H vs Q E hr h => ?_)
  · obtain ⟨x, v, d, rfl, _⟩ := h
    rfl
  · obtain ⟨x, v, d, rfl, hx, h⟩ := h
    refine ⟨_, (pss_cons (ps_expr (pe_call G (hr.mono (by omega)) (by rfl) T.gcheck_term T.fcheck_term.kp T.ncheck_term .nil (passes_call (takes_of rfl rfl rfl rfl) (fun _ _ _ _ h => h)) (pa_cons (pv 0) pa_nil)))
      (pss_cons (ps_expr (pe_call G2 (hr.mono (by omega)) (by rfl) T.gcheck_renaming T.fcheck_renaming.kp T.ncheck_renaming .nil (passes_call (takes_of rfl rfl rfl rfl) (fun _ _ _ _ h => h)) (pa_cons (pe_call G1 (hr.mono (by omega)) (by rfl) T.gjoint_places T.fjoint_places.kp T.njoint_places .nil pass0 (pa_cons (pe_lst (pa_cons (pv 0) pa_nil)) pa_nil)) (pa_cons (pv 1) pa_nil))))
      pss_false)), ?_⟩
    rcases h with ⟨td, q⟩ | h
    · exact ⟨_, rfl, _, _, rfl, hx, noB td, fun _ => q⟩
    have td : termD d = true := by
      rcases h with h | ⟨_, _, _, _, h, _⟩
      · exact h.1
      · exact h
    have sz : szD d ≤ 1000 := by
      rcases h with h | ⟨_, _, _, _, _, h, _⟩
      · exact h.2.1
      · exact h
    refine ⟨_, rfl, x, d, rfl, hx, fun _ H1 s1 => ?_, fun z => by rw [td] at z; cases z⟩
    refine ⟨_, rfl, (by show 1 ≤ sizeLine; decide), fun l nl => ?_⟩
    have s2 := s1.trans (same_put (o := .lst [x]) nl)
    refine ⟨l, x, d, rfl, .inl (.inl upd_same), hx.1.up s2, hx.2.1, hx.2.2, fun v2 H3 s3 _ ht => ?_⟩
    obtain ⟨p, ms, rfl, np, ep, ndp, lms, mem⟩ := ht td
    have s23 := s2.trans s3
    refine ⟨_, rfl, p, v, ms, rfl, ep, by omega, ?_⟩
    rcases h with ⟨_, _, bad, q⟩ | ⟨a, m, y, z, _, _, rfl, ha, hm, ndm, lm, ne, hy, hz, e, q⟩
    · exact .inl ⟨bad.up s23, fun H4 s4 => q H4 (s23.trans s4)⟩
    · have ha3 := s23 _ _ ha
      have npa : p ≠ a := fun z => by
        rw [z, s2 _ _ ha] at np
        cases np
      have inm : ∀ {x : Str}, x ∈ (rowsD d).map Prod.fst → x ∈ ms.map Prod.fst := fun {x} h => by
        obtain ⟨r, hr, e⟩ := List.mem_map.mp h
        exact List.mem_map.mpr ⟨r, (mem r).mpr hr, e⟩
      exact .inr ⟨a, m, rfl, npa, ha3, hm, ndm, lm, not_nodup ne e (inm hy) (inm hz), fun H4 s4 => q H4 (s23.trans s4)⟩
theorem ok_ren (T : Tx K mg) {ks : List Str} (nk : ks.Nodup) (few : ks.length ≤ 100)
    (hb : ∀ (kV dc pm cd ct : Value) (an : Option Addr) (u : Value) (ws : List Value), ws.length = ks.length → bindArgs (PySem.W.fnOf "renamed" "renamed" (defArgs s_renamed) (defBody s_renamed) (defScope s_renamed) .none kV dc pm an cd ct) ⟨[u], ks.zip ws⟩ =
      ((alloc ({ cls := .type "dict", data := .dict #[] } : Obj) : Sem Addr) >>= fun d => (forIn (ks.zip ws) PUnit.unit fun x _ => (nsSet d x.1 x.2 >>= fun _ => pure (ForInStep.yield PUnit.unit))) >>= fun _ => pure ([("term", u), ("names", Value.ref d)] : List (Str × Value)))) :
    KwR P w K mg base (L2.CX P w) 7 T.arenamed ks (spRb K T.CInvalidName T.CInvalidTerm T.CInvalidOperation) := by
  obtain ⟨oc, od, kV, doc, pm, an, cdv, ct, osl, ed, lk, hcd⟩ := T.frenamed.ex
  have G := ok_rb (P := P) (w := w) (base := base) T
  rw [ed] at lk
  intro A outer s H u v ws zs Q E hr e0 ru rz lz h
  refine run_kw (N := N_renamed) (sp := spRb K T.CInvalidName T.CInvalidTerm T.CInvalidOperation) lk hcd sc_renamed StX.cxUp nk few (fun u ws hl => hb _ _ _ _ _ _ u ws hl) (fun A outer s H vs Q E hr h => ?_) hr e0 ru rz lz h
  refine ⟨_, (pss_one (ps_ret (pe_call G (hr.mono (by omega)) (by rfl) T.grenamed_by T.frenamed_by.kp T.nrenamed_by .nil (passes_call (takes_of rfl rfl rfl rfl) (fun _ _ _ _ h => h)) (pa_cons (pv 0) (pa_cons (pv 1) pa_nil))))), ?_⟩
  obtain ⟨x, v2, d, rfl, rest⟩ := h
  exact ⟨_, rfl, _, rfl, x, v2, d, rfl, rest⟩
theorem ok_ren1 (T : Tx K mg) : KwR P w K mg base (L2.CX P w) 7 T.arenamed ["a"] (spRb K T.CInvalidName T.CInvalidTerm T.CInvalidOperation) := ok_ren T (by decide) (by decide) fun kV dc pm cd ct an u ws hl => match ws, hl with | [_], _ => rfl
theorem ok_ren2 (T : Tx K mg) : KwR P w K mg base (L2.CX P w) 7 T.arenamed ["A", "q"] (spRb K T.CInvalidName T.CInvalidTerm T.CInvalidOperation) := ok_ren T (by decide) (by decide) fun kV dc pm cd ct an u ws hl => match ws, hl with | [_, _], _ => rfl
end
end K05
/-! Odd values in the place of dicts of names. -/
namespace K05
open PySem PySem.Spec PyProof.Rows L2 Kx
section
variable {K : PySem.W.Frag} {S : List Addr} {H H' : Hp} {te tb : TE} {ta : TA} {d : PyData} {n m : Nat}
def MkB (K : PySem.W.Frag) (S : List Addr) (te : TE) : Prop := ∀ (σ : L2.St) (H : Hp) (Q : VK), Olds S H → (∀ x H', Same H H' → BadNm K (OffS S H') x → Q x H') → te σ H Q
def MkBs (K : PySem.W.Frag) (S : List Addr) (n : Nat) (ta : TA) : Prop := ∀ (σ : L2.St) (H : Hp) (Q : List V → Hp → Prop), Olds S H → (∀ xs H', Same H H' → xs.length = n → (∀ x, x ∈ xs → BadNm K (OffS S H') x) → Q xs H') → ta σ H Q
theorem mb_of (h : Makes K S te d) (nd : isDict d = false := by rfl) : MkB K S te := fun σ H Q o q => h σ H Q o fun x H' s dx => q x H' s (.dat dx nd)
theorem mb_nil : MkBs K S 0 tNil := fun σ H Q o q => q [] H (Same.refl H) rfl fun _ h => nomatch h
theorem mb_cons (h1 : MkB K S te) (h2 : MkBs K S n ta) : MkBs K S (n + 1) (tCons te ta) := fun σ H Q o q =>
  h1 σ H _ o fun x H1 s1 d1 => h2 σ H1 _ (o.up s1) fun xs H2 s2 l2 d2 => q _ H2 (s1.trans s2) (by rw [List.length_cons, l2]) fun y hy => by
    rcases List.mem_cons.mp hy with e | hy
    · rw [e]; exact d1.up (OffS.same s2)
    · exact d2 y hy
theorem olds_cons {p : Addr} {o : HO} (h : Olds S H) (np : H p = none) : Olds (p :: S) (upd H p o) := fun b hb z => by
  rcases List.mem_cons.mp hb with e | hb
  · rw [e, upd_same] at z
    cases z
  · have := h b hb
    have ne : b ≠ p := fun e => this (by rw [e]; exact np)
    rw [upd_ne ne] at z
    exact this z
theorem same_two {p : Addr} {o o' : HO} (np : H p = none) (s : Same (upd H p o) H') : Same H (upd H' p o') := fun b u hb => by
  have ne := ne_of_none hb np
  rw [upd_ne ne]
  exact s b u (by rw [upd_ne ne]; exact hb)
theorem offs_cons {p : Addr} {o : HO} : Same (OffS (p :: S) H) (OffS [p] (OffS S (upd H p o))) := fun b u hb => by
  obtain ⟨nb, hb⟩ := OffS.of hb
  rw [List.mem_cons, not_or] at nb
  exact OffS.out (by simpa using nb.1) (OffS.out nb.2 (by rw [upd_ne nb.1]; exact hb))
theorem mb_dic1 (k : Key) (hm : ∀ S, Makes K S te d) (bad : (nameD (keyD k) && nameD d) = false) (h1 : ∀ y, keyD k = .str y → y.length ≤ 1000) (h2 : ∀ y, d = .str y → y.length ≤ 1000) : MkB K S (tDisp [(tC (kV k), te)]) := fun σ H Q o q p np =>
  hm (p :: S) σ (upd H p (.dK [])) _ (olds_cons o np) fun x H2 s2 d2 => ⟨s2 _ _ upd_same, [(k, x)], rfl, (by show 1 ≤ 15; decide), q (.ref p) (upd H2 p (.dK [(k, x)])) (same_two np s2)
    (.dic (es := [(k, x, d)]) (OffS.out (o.new np) upd_same) (fun e he => by
      rw [List.mem_singleton.mp he]
      exact ⟨d2.up offs_cons, h1, h2⟩) (by simp) (by show 1 ≤ 100; decide) (by simpa [okEnt] using bad))⟩
theorem mb_dic2 (k1 k2 v1 v2 : Str) (ne : k1 ≠ k2) (bad : (nameD (.str k2) && nameD (.str v2)) = false) (h : k1.length ≤ 1000 ∧ k2.length ≤ 1000 ∧ v1.length ≤ 1000 ∧ v2.length ≤ 1000) : MkB K S (tDisp [(tC (.str k1), tC (.str v1)), (tC (.str k2), tC (.str v2))]) := fun σ H Q o q p np => by
  refine ⟨upd_same, [(.inr k1, .str v1), (.inr k2, .str v2)], rfl, (by show 2 ≤ 15; decide), ?_⟩
  have em : mergeK [] [((.inr k1 : Key), V.str v1), (.inr k2, .str v2)] = [(.inr k1, .str v1), (.inr k2, .str v2)] := by
    have ne' : ¬ (Sum.inr k1 : Key) = Sum.inr k2 := fun z => ne (Sum.inr.inj z)
    simp [mergeK, putK, ne']
  rw [em]
  refine q (.ref p) _ (same_two np (Same.refl _)) (.dic (es := [(.inr k1, .str v1, .str v1), (.inr k2, .str v2, .str v2)]) (OffS.out (o.new np) upd_same) (fun e he => ?_) (by simpa using ne) (by show 2 ≤ 100; decide) ?_)
  · rcases List.mem_cons.mp he with e | he
    · subst e
      exact ⟨.str _, (fun y z => by cases z; exact h.1), (fun y z => by cases z; exact h.2.2.1)⟩
    · rw [List.mem_singleton.mp he]
      exact ⟨.str _, (fun y z => by cases z; exact h.2.1), (fun y z => by cases z; exact h.2.2.2)⟩
  · have : okEnt ((.inr k2 : Key), V.str v2, .str v2) = false := bad
    simp [this]
theorem mb_tup (k v : Str) : MkB K S (tDispT1 (tTup (tCons (tC (.str k)) tNil)) (tC (.str v))) := fun σ H Q o q p np => by
  refine ⟨by show 1 ≤ sizeLine; decide, fun b nb => ?_⟩
  have npb : p ≠ b := fun e => by
    rw [← e, upd_same] at nb
    cases nb
  refine ⟨b, [.inr k], rfl, upd_same, by rw [upd_ne npb, upd_same], q _ _ (fun c u hc => ?_) (.tup (k := [.inr k]) (v := .str v) (OffS.out (o.new np) upd_same))⟩
  have ncp := ne_of_none hc np
  have ncb : c ≠ b := fun e => by
    rw [← e, upd_ne ncp, hc] at nb
    cases nb
  rw [upd_ne ncp, upd_ne ncb, upd_ne ncp]
  exact hc
/-- a list of such -/
def BadL (K : PySem.W.Frag) (S : List Addr) (H : Hp) (n : Nat) (x : V) : Prop := ∃ (l : Addr) (xs : List V), x = .ref l ∧ OffS S H l = some (.lst xs) ∧ xs.length = n ∧ ∀ y, y ∈ xs → BadNm K (OffS S H) y
theorem BadL.up {x : V} (h : BadL K S H n x) (s : Same H H') : BadL K S H' n x := by
  obtain ⟨l, xs, e, h1, h2, h3⟩ := h
  exact ⟨l, xs, e, OffS.same s _ _ h1, h2, fun y hy => (h3 y hy).up (OffS.same s)⟩
theorem asg_mb {j : Nat} {rest : TS} {D : Ends} {σ : L2.St} (h : MkBs K S n ta) (few : n ≤ 100) (o : Olds S H) (q : ∀ x H', Same H H' → BadL K S H' n x → rest D (σ.set j (some x)) H') : tSeq (tAsg (tLst ta) (gName j)) rest D σ H :=
  h σ H _ o fun xs H1 s1 l1 d1 => ⟨by rw [l1]; exact Nat.le_of_lt (small1000 (by omega)), fun p np => q _ _ (s1.trans (same_put np)) ⟨p, xs, rfl, OffS.out ((o.up s1).new np) upd_same, l1, fun y hy => (d1 y hy).up (OffS.same (same_put np))⟩⟩
theorem cat_mb {σ : L2.St} {i : Nat} {x : V} {Q : VK} (hx : σ[i]? = some (some x)) (d1 : BadL K S H n x) (h : MkBs K S m ta) (few : n + m ≤ 100) (o : Olds S H)
    (q : ∀ x H', Same H H' → BadL K S H' (n + m) x → Q x H') : tOp rCat (tVar i) (tLst ta) σ H Q := by
  refine ⟨x, hx, h σ H _ o fun ys H2 s2 l2 d2 => ⟨by rw [l2]; exact Nat.le_of_lt (small1000 (by omega)), fun b nb => ?_⟩⟩
  have s3 := s2.trans (same_put (o := .lst ys) nb)
  obtain ⟨l, xs, rfl, hl, lx, hb⟩ := d1.up s3
  refine ⟨l, b, xs, ys, rfl, rfl, OffS.all _ _ hl, upd_same, by rw [lx, l2]; exact Nat.le_of_lt (small1000 (by omega)), fun p np => ?_⟩
  refine q _ _ (s3.trans (same_put np)) ⟨p, _, rfl, OffS.out ((o.up s3).new np) upd_same, by rw [List.length_append, lx, l2], fun y hy => ?_⟩
  rcases List.mem_append.mp hy with hy | hy
  · exact (hb y hy).up (OffS.same (same_put np))
  · exact (d2 y hy).up (OffS.same ((same_put nb).trans (same_put np)))
end
section
variable {P : Program} {w : World} {K : PySem.W.Frag} {mg : Str → Option Value} {base : Heap}
def spOddR (K : PySem.W.Frag) : Sp := fun vs H Q _ => ∃ (a : Addr) (n : Nat) (S : List Addr), vs = [.ref a] ∧ Dice H a n ∧ n + 1 < cap ∧ a ∈ S ∧ Olds S H ∧
  ∀ (x : V) H', But a H H' → Dice H' a (n + 1) → BadNm K (OffS S H') x → Q x H'
theorem ok_oddR (T : Tx K mg) : FnOk P w K mg base CX0 3 T.a_law_odd_renaming T.d_law_odd_renaming ["dice"] (spOddR K) := by
  have nd := sc__law_odd_renaming.nd
  have G := ok_pick (P := P) (w := w) (base := base) T
  refine T.f_law_odd_renaming.ok sc__law_odd_renaming (fun vs H Q E h => ?_) (fun cdv A outer s H vs Q E hr h => ?_)
  · obtain ⟨a, n, S, rfl, _⟩ := h
    rfl
  · obtain ⟨a, n, S, rfl, hd, hn, aS, old, q⟩ := h
    have hu2 : A.units + 3 + 2 < cLine := by
      have := hr.un
      show A.units + 3 + 2 < _
      have e : (A.deeper (envOfC "_law_odd_renaming" (defScope s__law_odd_renaming) s.heap.objs.size T.a_law_odd_renaming cdv)).units = A.units + 3 := rfl
      omega
    refine ⟨_, (pss_cons (ps_set (i := 1) nd rfl (.inl rfl) (pe_lst (pa_cons pe_non (pa_cons pe_int (pa_cons pe_str (pa_cons (pe_tup pa_nil) (pa_cons (pe_lst pa_nil) (pa_cons (pe_lst (pa_cons (pe_tup (pa_cons pe_str (pa_cons pe_str pa_nil))) pa_nil)) (pa_cons (pe_tup (pa_cons (pe_tup (pa_cons pe_str (pa_cons pe_str pa_nil))) pa_nil)) (pa_cons (pe_disp (pps_cons pe_str pe_int pps_nil) (by rfl) (by rfl) (fun z => by cases z) (by decide)) (pa_cons (pe_disp (pps_cons pe_str pe_str pps_nil) (by rfl) (by rfl) (fun z => by cases z) (by decide)) (pa_cons (pe_disp (pps_cons pe_str pe_str pps_nil) (by rfl) (by rfl) (fun z => by cases z) (by decide)) pa_nil))))))))))))
      (pss_cons (ps_set (i := 1) nd rfl (.inl rfl) (pe_op op_cat (pv 1) (pe_lst (pa_cons (pe_disp (pps_cons pe_int pe_str pps_nil) (by rfl) (by rfl) (fun z => by cases z) (by decide)) (pa_cons (pe_disp (pps_cons pe_str pe_non pps_nil) (by rfl) (by rfl) (fun z => by cases z) (by decide)) (pa_cons (pe_disp (pps_cons pe_str pe_str pps_nil) (by rfl) (by rfl) (fun z => by cases z) (by decide)) (pa_cons (pe_disp (pps_cons pe_str pe_str pps_nil) (by rfl) (by rfl) (fun z => by cases z) (by decide)) (pa_cons (pe_disp (pps_cons pe_str pe_str (pps_cons pe_str pe_str pps_nil)) (by rfl) (by rfl) (fun z => by cases z) (by decide)) pa_nil))))))))
      (pss_one (ps_ret (pe_call G (hr.mono (by omega)) (by rfl) T.g_law_pick T.f_law_pick.kp T.n_law_pick .nil pass0 (pa_cons (pv 0) (pa_cons (pe_op op_cat (pv 1) (pe_lst (pa_cons (pe_dispT1 hu2 (pe_tup (pa_cons pe_str pa_nil)) pe_str) (pa_cons (pe_disp (pps_cons pe_str (pe_tup (pa_cons pe_str pa_nil)) pps_nil) (by rfl) (by rfl) (fun z => by cases z) (by decide)) pa_nil)))) pa_nil))))))), ?_⟩
    refine asg_mb (K := K) (S := S) (mb_cons (mb_of mk_non) (mb_cons (mb_of (mk_int _)) (mb_cons (mb_of (mk_str _)) (mb_cons (mb_of (mk_tup mk_nil)) (mb_cons (mb_of (mk_lst mk_nil)) (mb_cons (mb_of (mk_lst (mk_cons (mk_tup (mk_cons (mk_str _) (mk_cons (mk_str _) mk_nil))) mk_nil))) (mb_cons (mb_of (mk_tup (mk_cons (mk_tup (mk_cons (mk_str _) (mk_cons (mk_str _) mk_nil))) mk_nil))) (mb_cons (mb_dic1 (.inr "a") (fun S => mk_int _) (by decide +kernel) (fun y e => by cases e; first | decide | exact (by decide)) (fun y e => nomatch e)) (mb_cons (mb_dic1 (.inr "a") (fun S => mk_str _) (by decide +kernel) (fun y e => by cases e; first | decide | exact (by decide)) (fun y e => by cases e; first | decide | exact (by decide))) (mb_cons (mb_dic1 (.inr "A") (fun S => mk_str _) (by decide +kernel) (fun y e => by cases e; first | decide | exact (by decide)) (fun y e => by cases e; first | decide | exact (by decide))) mb_nil)))))))))) (by decide) old fun x1 H1 s1 d1 => ?_
    refine cat_mb (σ := [some (.ref a), some x1]) (i := 1) rfl d1 (mb_cons (mb_dic1 (.inl 1) (fun S => mk_str _) (by decide +kernel) (fun y e => nomatch e) (fun y e => by cases e; first | decide | exact (by decide))) (mb_cons (mb_dic1 (.inr "a") (fun S => mk_non) (by decide +kernel) (fun y e => by cases e; first | decide | exact (by decide)) (fun y e => nomatch e)) (mb_cons (mb_dic1 (.inr "a") (fun S => mk_str _) (by decide +kernel) (fun y e => by cases e; first | decide | exact (by decide)) (fun y e => by cases e; first | decide | exact (by decide))) (mb_cons (mb_dic1 (.inr "") (fun S => mk_str _) (by decide +kernel) (fun y e => by cases e; first | decide | exact (by decide)) (fun y e => by cases e; first | decide | exact (by decide))) (mb_cons (mb_dic2 "a" "c" "b" "abcdefghi" (by decide) (by decide +kernel) (by decide)) mb_nil))))) (by decide) (old.up s1) fun x2 H2 s2 d2 => ?_
    refine ⟨_, rfl, cat_mb (σ := [some (.ref a), some x2]) (i := 1) rfl d2 (mb_cons (mb_tup "a" "b") (mb_cons (mb_dic1 (.inr "a") (fun S => mk_tup (mk_cons (mk_str "b") mk_nil)) (by decide +kernel) (fun y e => by cases e; first | decide | exact (by decide)) (fun y e => nomatch e)) mb_nil)) (by decide) ((old.up s1).up s2) fun x3 H3 s3 d3 => ?_⟩
    have s13 := s1.trans (s2.trans s3)
    obtain ⟨b, xs, rfl, hb, lx, all⟩ := d3
    obtain ⟨nb, eb⟩ := OffS.of hb
    refine ⟨a, b, n, xs, rfl, hd.up s13, by omega, .inl (.inl eb), fun e => nb (by rw [e]; exact aS), by rw [lx]; decide, by rw [lx]; decide, fun i v H' bt dd hi => ?_⟩
    refine q v H' ((But.of s13).trans bt) dd ((all v (List.mem_of_getElem? hi)).up fun c o hc => ?_)
    obtain ⟨nc, hc⟩ := OffS.of hc
    exact OffS.out nc (bt c o hc (fun e => nc (by rw [e]; exact aS)))
end
end K05
/-! == and != of data, deep ones. -/
namespace Kx
open PySem PySem.Spec PyProof.Rows L2
section
variable {X : Cx}
/-- == and != of data, deep ones -/
def rEqF (K : PySem.W.Frag) : R2 := fun x y H Q => ∃ d e, Dp K H x d ∧ Dp K H y e ∧ d.canLay0 = true ∧ e.canLay0 = true ∧ d.depth ≤ 190 ∧ Q (.bl (PyData.eqv d e)) H
def rNeF (K : PySem.W.Frag) : R2 := fun x y H Q => ∃ d e, Dp K H x d ∧ Dp K H y e ∧ d.canLay0 = true ∧ e.canLay0 = true ∧ d.depth ≤ 190 ∧ Q (.bl (!PyData.eqv d e)) H
theorem op_eqF (hu : X.A.units + 200 < cLine) : OpR X (compareOp .Eq) (rEqF X.K) := by
  intro pins s σ H x y v u Q I rx ry h
  obtain ⟨d, e, hd, he, sd, se, z, q⟩ := h
  obtain ⟨as, r1⟩ := Dp.reads I d x v hd rx
  obtain ⟨bs, r2⟩ := Dp.reads I e y u he ry
  exact SeqAt.compareEq_reads r1 r2 sd se (by have := Nat.min_le_left d.depth e.depth; omega) ⟨.bl _, H, I, rfl, q⟩
theorem op_neF (hu : X.A.units + 200 < cLine) : OpR X (compareOp .NotEq) (rNeF X.K) := by
  intro pins s σ H x y v u Q I rx ry h
  obtain ⟨d, e, hd, he, sd, se, z, q⟩ := h
  obtain ⟨as, r1⟩ := Dp.reads I d x v hd rx
  obtain ⟨bs, r2⟩ := Dp.reads I e y u he ry
  exact SeqAt.compareNe_reads r1 r2 sd se (by have := Nat.min_le_left d.depth e.depth; omega) ⟨.bl _, H, I, rfl, q⟩
end
theorem room200 {k : Nat} {A : Around} (r : Room k A) : A.units + 200 < cLine := by
  have := r.un
  omega
end Kx
/-! Lambdas handed to the law's own word for errors. -/
namespace Kx
open PySem PySem.Spec PyProof.Rows L2 LamX
section
variable {K : PySem.W.Frag} {H H' H1 : Hp}
mutual
theorem Dx.ext (e : ExtN H H') : ∀ {d : PyData} {v : V}, Dx K H v d → Dx K H' v d
  | .none, _, h => by cases h; exact .non
  | .bool b, _, h => by cases h; exact .bl b
  | .int i, _, h => by cases h; exact .int i
  | .str x, _, h => by cases h; exact .str x
  | .list ds, _, h => by cases h with | lst a b => exact .lst (e _ _ a (fun ps z => nomatch z)) (DxAll.ext e b)
  | .tuple ds, _, h => by cases h with | tup a b => exact .tup (e _ _ a (fun ps z => nomatch z)) (DxAll.ext e b)
  | .dict ds, _, h => by cases h with | dic a b => exact .dic (e _ _ a (fun ps z => nomatch z)) b
theorem DxAll.ext (e : ExtN H H') : ∀ {ds : List PyData} {vs : List V}, DxAll K H vs ds → DxAll K H' vs ds
  | [], _, h => by cases h; exact .nil
  | d :: ds, _, h => by cases h with | cons a b => exact .cons (Dx.ext e a) (DxAll.ext e b)
end
theorem offs_ext {S : List Addr} (e : ExtN H H') : ExtN (OffS S H) (OffS S H') := fun b o h n => by
  obtain ⟨nb, h⟩ := OffS.of h
  exact OffS.out nb (e b o h n)
theorem ext_sm (e : Same H H') : ExtN H H' := ExtN.of e
theorem tabs_put {T : List (Addr × Str)} {l : Addr} {xs ys : List V} (t : Tabs T H) (h : H l = some (.lst xs)) : Tabs T (upd H l (.lst ys)) := fun p hp => by
  obtain ⟨ps, h1, h2, h3⟩ := t p hp
  refine ⟨ps, by rw [upd_ne (ne_of h1 h (fun e => nomatch e))]; exact h1, h2, fun pos cv hc => ?_⟩
  obtain ⟨c, e1, e2⟩ := h3 pos cv hc
  exact ⟨c, e1, by rw [upd_ne (ne_of e2 h (fun e => by unfold CodeO at e; cases e))]; exact e2⟩
/-- te says w, from the heap H0 on -/
def Says (T : List (Addr × Str)) (H0 : Hp) (σ : L2.St) (te : TE) (w : Str) : Prop := ∀ (H : Hp) (Q : VK), ExtN H0 H → Tabs T H → (∀ H', ExtN H H' → Tabs T H' → Q (.str w) H') → te σ H Q
/-- a list of what was said so far -/
structure Lst (T : List (Addr × Str)) (H0 : Hp) (l : Addr) (ws : List Str) (H : Hp) : Prop where
  new : ∀ o, H0 l = some o → ∃ ps, o = .tbl ps
  ext : ExtN H0 H
  tabs : Tabs T H
  at_ : H l = some (.lst (ws.map V.str))
theorem asg_says {T : List (Addr × Str)} {H0 : Hp} {σ : L2.St} {te : TE} {w : Str} {j : Nat} {rest : TS} {D : Ends} (t0 : Tabs T H0) (h : Says T H0 σ te w) (q : ∀ l H', Lst T H0 l [w] H' → rest D (σ.set j (some (.ref l))) H') :
    tSeq (tAsg (tLst (tCons te tNil)) (gName j)) rest D σ H0 :=
  h H0 _ (ExtN.refl _) t0 fun H' e t => ⟨by show 1 ≤ sizeLine; decide, fun l nl => q l _ ⟨fun o z => Classical.byContradiction fun tb => (by
    rw [e _ _ z (fun ps x => tb ⟨ps, x⟩)] at nl
    cases nl), e.trans (ext_sm (same_put nl)), t.ext (same_put nl), upd_same⟩⟩
theorem Lst.ext_put {T : List (Addr × Str)} {H0 : Hp} {l : Addr} {ws : List Str} {xs : List V} (h : Lst T H0 l ws H) : ExtN H0 (upd H l (.lst xs)) := fun b o e n => by
  have ne : b ≠ l := fun z => by
    subst z
    obtain ⟨ps, hp⟩ := h.new o e
    exact n ps hp
  rw [upd_ne ne]
  exact h.ext b o e n
/-- told.append(..) -/
theorem app_says {T : List (Addr × Str)} {H0 : Hp} {σ : L2.St} {te : TE} {w : Str} {i : Nat} {l : Addr} {ws : List Str} {rest : TS} {D : Ends} (hi : σ[i]? = some (some (.ref l))) (h : Lst T H0 l ws H) (sy : Says T H0 σ te w) (few : ws.length ≤ 100)
    (q : ∀ H', Lst T H0 l (ws ++ [w]) H' → rest D σ H') : tSeq (tDrop (tBM K "list" rAppend (tVar i) (tCons te tNil))) rest D σ H :=
  ⟨_, hi, .inl ⟨rfl, _, SqL.of h.at_⟩, sy H _ h.ext h.tabs fun H' e t => by
    have hl := e _ _ h.at_ (fun ps z => nomatch z)
    have h' : Lst T H0 l ws H' := ⟨h.new, h.ext.trans e, t, hl⟩
    exact ⟨l, _, _, rfl, rfl, hl, by rw [List.length_map]; exact small1000 (by omega), q _ ⟨h.new, h'.ext_put, tabs_put t hl, by rw [upd_same, List.map_append]; rfl⟩⟩⟩
end
end Kx
/-! The makers of lambdas; what they say. -/
namespace Kx
open PySem PySem.Spec PyProof.Rows L2 LamX
/-- one of several defs, that a slot holds, called; they keep one promise -/
structure HeldX (P : Program) (w : World) (K : PySem.W.Frag) (mg : Str → Option Value) (base : Heap) (k : Nat) (f : Addr) (sp : Sp) : Prop where
  ex : ∃ (fd : FuncData) (ps : List Str), FnOk P w K mg base (L2.CX P w) k f fd ps sp ∧ PySem.W.keepIn K (.ref f) = true ∧ Binds K fd ps []
def tCallX (i : Nat) (S : Addr → Prop) (sp : Sp) (E : XK) (t : TA) : TE := fun σ H Q => ∃ f, σ[i]? = some (some (.ref f)) ∧ S f ∧ t σ H fun vs H1 => sp vs H1 Q E
theorem pe_callX {X : Cx} {S : Addr → Prop} {sp : Sp} {k i : Nat} {x : Str} {e : Expr} {es : List Expr} {t : TA} {p pos : Pos} {E : XK} (A : ∀ f, S f → HeldX X.prog X.w X.K X.mg X.base k f sp) (hr : Room k X.A) (hN : X.N[i]? = some x) (hv : Vis X.env.scope x) (hx : Passes (L2.CX X.prog X.w) X E) (ha : PA X (e :: es) t)
    (hdb : (x == ("__debug__" : Str)) = false := by decide) (hcd : (x == ("__classdict__" : Str)) = false := by decide)
    (he : starEach (e :: es) X.env = (false, eval e X.env) :: starEach es X.env := by rfl) (hpl : (backTo pos (starEach es X.env)).any (·.1) = false := by rfl) : PE X (.Call (.Name x p) (e :: es) [] pos) (tCallX i S sp E t) := by
  refine ⟨fun pins s σ H Q I h => ?_⟩
  obtain ⟨f, hs, hS, ht⟩ := h
  obtain ⟨fd, ps, F, hk, hb⟩ := (A f hS).ex
  refine wpAny_Call_Name_kw (thn ((pe_var (pos := p) hN hv hdb hcd).run pins s σ H (fun v H1 => v = .ref f ∧ H1 = H) I ⟨.ref f, hs, rfl, rfl⟩) fun u s1 ⟨v, H1, I1, r1, q1⟩ => ?_)
  obtain ⟨rfl, rfl⟩ := q1
  cases r1
  refine PySem.W.callWith_K (h₀ := X.base) I.ok.mod.kin hk (thn (ha.run pos pins s1 σ _ _ I1 ht) fun us s2 ⟨vs, H2, I2, r, q⟩ => ⟨I2.kIn, ?_⟩) he hpl
  exact run_fn F hr hb .nil hx I2 r (by rw [List.append_nil]; exact q)
end Kx
namespace K05
open PySem PySem.Spec PyProof.Rows L2 Kx LamX
theorem pe_raised {X : Cx} (T : Tx X.K X.mg) (Y : Kinds T) {c P : Addr} {tabs : List (Addr × Str)} {params : Arguments} {body : Expr} {scope : Scope} {t : XK → TE} {k : Nat} {p lpos pos : Pos} (hg : Gl X "_law_raised")
    (TB : TabB X.base X.mg c P) (hcode : X.env.code = .ref c) (hmT : (P, X.env.qual ++ "<lambda>") ∈ tabs) (hu : ∀ p ∈ tabs, p.1 = P → p.2 = X.env.qual ++ "<lambda>") (hr : Room (k + 2) X.A) (L : LamS X.env.scope scope) (hdef : defaultsOf params X.env = ([], []))
    (hbind : ∀ (q : Str) (cl : List (Str × Addr)) (pm cv ctv : Value), bindArgs (PySem.W.kla_fn "<lambda>" q params body scope cl pm cv ctv) ⟨[], []⟩ = pure [])
    (hbody : ∀ (A : Around) (outer : List Env) (s : Shared) (H : Hp) (E : XK) (f c' : Addr), Room k (A.deeper (lamEnv X scope s.heap.objs.size f c')) → PE (lamCx X A outer s H E scope f c') body (t E)) :
    PE X (.Call (.Name "_law_raised" p) [.Lambda params body scope lpos] [] pos) (tLam tabs (TRaised T) t) := by
  obtain ⟨oc, od, kV, doc, pm, an, cdv, ct, osl, ed, lk, hcd⟩ := T.f_law_raised.ex
  have nb := T.n_law_raised
  rw [ed] at lk nb
  exact pe_lamcall (Ng := N__law_raised) hg T.g_law_raised T.f_law_raised.kp lk hcd nb sc__law_raised rfl (.inl rfl) (raised_gives T Y) TB hcode hmT hu hr L hdef hbind hbody
section
variable {K : PySem.W.Frag} {mg : Str → Option Value} {T : Tx K mg} {tabs : List (Addr × Str)} {H0 : Hp} {σ : L2.St} {t : XK → TE}
/-- the error C, told as w -/
def Word (T : Tx K mg) (C : Addr) (w : Str) : Prop := ∃ j : Nat, [(T.CInvalidName, 0, ("name" : Str)), (T.CInvalidTerm, 1, ("term" : Str)), (T.CInvalidOperation, 2, ("operation" : Str))][j]? = some (C, j, w)
theorem wdN : Word T T.CInvalidName "name" := ⟨0, rfl⟩
theorem wdT : Word T T.CInvalidTerm "term" := ⟨1, rfl⟩
theorem wdO : Word T T.CInvalidOperation "operation" := ⟨2, rfl⟩
theorem says_lam {C : Addr} {w : Str} (hc : Word T C w) (h : ∀ (H : Hp) (E : XK) (Q : VK), ExtN H0 H → (∀ H', Same H H' → E (.ref C) none H') → t E σ H Q) : Says tabs H0 σ (tLam tabs (TRaised T) t) w := fun H Q e tt q =>
  ⟨tt, fun H1 e1 t1 => h H1 _ _ (e.trans e1) fun H' s => ⟨rfl, C, hc.choose, w, rfl, hc.choose_spec, fun H2 s2 => q H2 (e1.trans (ext_sm (s.trans s2))) ((t1.ext s).ext s2)⟩⟩
theorem says_ret (h : ∀ (H : Hp) (E : XK) (Q : VK), ExtN H0 H → (∀ x H', Same H H' → Q x H') → t E σ H Q) : Says tabs H0 σ (tLam tabs (TRaised T) t) "returned" := fun H Q e tt q =>
  ⟨tt, fun H1 e1 t1 => h H1 _ _ (e.trans e1) fun x H' s => q H' (e1.trans (ext_sm s)) (t1.ext s)⟩
end
/-- what is said of the makers of lambdas -/
structure Ty {K : PySem.W.Frag} {mg : Str → Option Value} (T : Tx K mg) where
  kn : Kinds T
  cM : Addr
  PM : Addr
  cA : Addr
  PA : Addr
  cC : Addr
  PC : Addr
  codeM : T.d_law_made_right.code = .ref cM
  codeA : T.d_law_asked_right.code = .ref cA
  codeC : T.d_law_changed_right.code = .ref cC
  ne1 : PM ≠ PA
  ne2 : PM ≠ PC
  ne3 : PA ≠ PC
abbrev qM : Str := (("_law_made_right" : Str) ++ ".<locals>.") ++ "<lambda>"
abbrev qA : Str := (("_law_asked_right" : Str) ++ ".<locals>.") ++ "<lambda>"
abbrev qC : Str := (("_law_changed_right" : Str) ++ ".<locals>.") ++ "<lambda>"
section
variable {K : PySem.W.Frag} {mg : Str → Option Value} {T : Tx K mg}
def Ty.tb (Y : Ty T) : List (Addr × Str) := [(Y.PM, qM), (Y.PA, qA), (Y.PC, qC)]
theorem Ty.hM (Y : Ty T) : (Y.PM, qM) ∈ Y.tb ∧ ∀ p ∈ Y.tb, p.1 = Y.PM → p.2 = qM := by
  refine ⟨by simp [Ty.tb], fun p hp e => ?_⟩
  simp only [Ty.tb, List.mem_cons, List.not_mem_nil, or_false] at hp
  rcases hp with rfl | rfl | rfl
  · rfl
  · exact absurd e.symm Y.ne1
  · exact absurd e.symm Y.ne2
theorem Ty.hA (Y : Ty T) : (Y.PA, qA) ∈ Y.tb ∧ ∀ p ∈ Y.tb, p.1 = Y.PA → p.2 = qA := by
  refine ⟨by simp [Ty.tb], fun p hp e => ?_⟩
  simp only [Ty.tb, List.mem_cons, List.not_mem_nil, or_false] at hp
  rcases hp with rfl | rfl | rfl
  · exact absurd e Y.ne1
  · rfl
  · exact absurd e.symm Y.ne3
theorem Ty.hC (Y : Ty T) : (Y.PC, qC) ∈ Y.tb ∧ ∀ p ∈ Y.tb, p.1 = Y.PC → p.2 = qC := by
  refine ⟨by simp [Ty.tb], fun p hp e => ?_⟩
  simp only [Ty.tb, List.mem_cons, List.not_mem_nil, or_false] at hp
  rcases hp with rfl | rfl | rfl
  · exact absurd e Y.ne2
  · exact absurd e Y.ne3
  · rfl
end
end K05
/-! Displays at given locals; a text times a number. -/
namespace Kx
open PySem PySem.Spec PyProof.Rows L2
/-- te makes d, with these locals -/
def MkAt (K : PySem.W.Frag) (σ : L2.St) (te : TE) (d : PyData) : Prop := ∀ (H : Hp) (Q : VK), (∀ x H', Same H H' → Dx K H' x d → Q x H') → te σ H Q
def MkAts (K : PySem.W.Frag) (σ : L2.St) (ta : TA) (ds : List PyData) : Prop := ∀ (H : Hp) (Q : List V → Hp → Prop), (∀ xs H', Same H H' → DxAll K H' xs ds → Q xs H') → ta σ H Q
section
variable {K : PySem.W.Frag} {σ : L2.St} {te : TE} {ta : TA} {d : PyData} {ds : List PyData}
theorem ma_var {i : Nat} {x : Str} (h : σ[i]? = some (some (.str x))) : MkAt K σ (tVar i) (.str x) := fun H Q q => ⟨_, h, q _ H (Same.refl H) (.str x)⟩
theorem ma_nil : MkAts K σ tNil [] := fun H Q q => q _ H (Same.refl H) .nil
theorem ma_cons (h1 : MkAt K σ te d) (h2 : MkAts K σ ta ds) : MkAts K σ (tCons te ta) (d :: ds) := fun H Q q =>
  h1 H _ fun x H1 s1 d1 => h2 H1 _ fun xs H2 s2 d2 => q _ H2 (s1.trans s2) (.cons (d1.up s2) d2)
theorem ma_tup (h : MkAts K σ ta ds) (few : ds.length ≤ sizeLine) : MkAt K σ (tTup ta) (.tuple ds) := fun H Q q =>
  h H _ fun xs H1 s1 d1 => ⟨by rw [d1.length]; exact few, fun p np => q _ _ (s1.trans (same_put np)) (.tup upd_same (d1.up (same_put np)))⟩
theorem ma_lst (h : MkAts K σ ta ds) (few : ds.length ≤ sizeLine) : MkAt K σ (tLst ta) (.list ds) := fun H Q q =>
  h H _ fun xs H1 s1 d1 => ⟨by rw [d1.length]; exact few, fun p np => q _ _ (s1.trans (same_put np)) (.lst upd_same (d1.up (same_put np)))⟩
theorem asg_at {H : Hp} {j : Nat} {rest : TS} {D : Ends} (m : MkAt K σ te d) (q : ∀ x H', Same H H' → Dx K H' x d → rest D (σ.set j (some x)) H') : tSeq (tAsg te (gName j)) rest D σ H := m H _ q
theorem ma_str (x : Str) : MkAt K σ (tC (.str x)) (.str x) := fun H Q q => q _ H (Same.refl H) (.str x)
theorem ma_int (i : Int) : MkAt K σ (tC (.int i)) (.int i) := fun H Q q => q _ H (Same.refl H) (.int i)
theorem ma_bl (b : Bool) : MkAt K σ (tC (.bl b)) (.bool b) := fun H Q q => q _ H (Same.refl H) (.bl b)
end
section
variable {X : Cx}
/-- a text times a number -/
def rMulS : R2 := fun x y H Q => ∃ (z : Str) (n : Int), x = .str z ∧ y = .int n ∧ MulOk z n ∧ Q (.str (Txt.mul z n)) H
theorem op_mulS : OpR X (binaryOp .Mult) rMulS := by
  intro pins s σ H x y v u Q I rx ry h
  obtain ⟨z, n, rfl, rfl, ok, q⟩ := h
  obtain ⟨t, rfl⟩ := rx
  obtain ⟨t2, rfl⟩ := ry
  exact PySem.SB.mul ok fun t' k => ⟨.str _, H, I.tok k, ⟨_, rfl⟩, q⟩
end
end Kx
/-! Terms and odd values, as the law asks of them. -/
namespace K05
open PySem PySem.Spec PyProof.Rows L2 Kx LamX
mutual
theorem sz_formed : ∀ (n : Nat) (d : PyData), formedD d = true → d.depth ≤ n → szD d ≤ 2 * 4 ^ n
  | 0, .tuple ds, h, hd => by simp [PyData.depth] at hd
  | n + 1, .tuple (x :: ds), h, hd => by
    rw [formedD, Bool.and_eq_true, Bool.and_eq_true, decide_eq_true_eq] at h
    simp only [PyData.depth, PyData.depthAll] at hd
    have hx : szD x = 1 := by
      have := h.1.2
      cases x with
      | str _ => rfl
      | _ => cases this
    have := sz_formeds n ds h.2 (by omega)
    have l := h.1.1
    have m : ds.length * (2 * 4 ^ n) ≤ 3 * (2 * 4 ^ n) := Nat.mul_le_mul_right _ l
    have p : 0 < 4 ^ n := Nat.pow_pos (by decide)
    rw [szD, szAll, hx, Nat.pow_succ]
    omega
  | n + 1, .tuple [], h, _ => by cases h
  | _, .none, h, _ => by cases h
  | _, .bool _, h, _ => by cases h
  | _, .int _, h, _ => by cases h
  | _, .str _, h, _ => by cases h
  | _, .list _, h, _ => by cases h
  | _, .dict _, h, _ => by cases h
theorem sz_formeds : ∀ (n : Nat) (ds : List PyData), formedAll ds = true → PyData.depthAll ds ≤ n → szAll ds ≤ ds.length * (2 * 4 ^ n)
  | _, [], _, _ => by simp [szAll]
  | n, d :: ds, h, hd => by
    rw [formedAll, Bool.and_eq_true] at h
    simp only [PyData.depthAll] at hd
    have a := sz_formed n d h.1 (by omega)
    have b := sz_formeds n ds h.2 (by omega)
    rw [szAll, List.length_cons, Nat.succ_mul]
    omega
end
theorem nm_short {x : Str} (h : isNm x = true) : x.length ≤ 1000 := by
  simp only [isNm, Bool.and_eq_true, decide_eq_true_eq] at h
  omega
mutual
theorem short_formed : ∀ (d : PyData), formedD d = true → shortD d = true
  | .tuple (.str x :: ds), h => by
    rw [formedD, Bool.and_eq_true, Bool.and_eq_true] at h
    rw [shortD, shortAll, shortD, Bool.and_eq_true, decide_eq_true_eq]
    exact ⟨nm_short h.1.2, short_formeds ds h.2⟩
  | .tuple (.none :: ds), h => by simp [formedD, nameD] at h
  | .tuple (.bool _ :: ds), h => by simp [formedD, nameD] at h
  | .tuple (.int _ :: ds), h => by simp [formedD, nameD] at h
  | .tuple (.list _ :: ds), h => by simp [formedD, nameD] at h
  | .tuple (.tuple _ :: ds), h => by simp [formedD, nameD] at h
  | .tuple (.dict _ :: ds), h => by simp [formedD, nameD] at h
  | .tuple [], h => by cases h
  | .none, h => by cases h
  | .bool _, h => by cases h
  | .int _, h => by cases h
  | .str _, h => by cases h
  | .list _, h => by cases h
  | .dict _, h => by cases h
theorem short_formeds : ∀ (ds : List PyData), formedAll ds = true → shortAll ds = true
  | [], _ => rfl
  | d :: ds, h => by
    rw [formedAll, Bool.and_eq_true] at h
    rw [shortAll, short_formed d h.1, short_formeds ds h.2]
    rfl
end
theorem termD_formed {d : PyData} (h : termD d = true) : formedD d = true := by
  rw [termD, Bool.and_eq_true] at h
  exact h.1
theorem term_sub : ∀ {ds : List PyData} {x e : PyData}, termD (.tuple (x :: ds)) = true → e ∈ ds → termD e = true := by
  intro ds x e h m
  rw [termD, Bool.and_eq_true, decide_eq_true_eq] at h
  obtain ⟨hf, hn⟩ := h
  rw [formedD, Bool.and_eq_true] at hf
  have key : ∀ {ds : List PyData}, formedAll ds = true → e ∈ ds → formedD e = true ∧ ∀ r, r ∈ rowsD e → r ∈ rowsAll ds := by
    intro ds
    induction ds with
    | nil => exact fun _ h => (nomatch h)
    | cons d ds ih =>
      intro h m
      rw [formedAll, Bool.and_eq_true] at h
      rcases List.mem_cons.mp m with m | m
      · subst m
        exact ⟨h.1, fun r hr => by rw [rowsAll]; exact List.mem_append_left _ hr⟩
      · obtain ⟨a, b⟩ := ih h.2 m
        exact ⟨a, fun r hr => by rw [rowsAll]; exact List.mem_append_right _ (b r hr)⟩
  obtain ⟨a, b⟩ := key hf.2 m
  rw [termD, a, Bool.true_and, decide_eq_true_eq]
  intro p hp q hq
  rw [rowsD] at hn
  exact hn p (List.mem_cons_of_mem _ (b p hp)) q (List.mem_cons_of_mem _ (b q hq))
theorem term_no {x : PyData} {ds : List PyData} {e : PyData} (m : e ∈ ds) (h : termD e = false) : termD (.tuple (x :: ds)) = false := by
  cases z : termD (.tuple (x :: ds)) with
  | false => rfl
  | true =>
    rw [term_sub z m] at h
    cases h
theorem term_many {x : PyData} {ds : List PyData} (h : 3 < ds.length) : termD (.tuple (x :: ds)) = false := by
  rw [termD, formedD, decide_eq_false (by omega)]
  rfl
theorem term_clash {n : Str} {ds : List PyData} (h : ds.length ≠ 1) : termD (.tuple [.str n, .tuple (.str n :: ds)]) = false := by
  cases z : termD (.tuple [.str n, .tuple (.str n :: ds)]) with
  | false => rfl
  | true =>
    rw [termD, Bool.and_eq_true, decide_eq_true_eq] at z
    have := z.2 (n, 1) (by simp [rowsD, headD]) (n, ds.length) (by simp [rowsD, rowsAll, headD]) rfl
    exact absurd this.symm h
/-- what is asked of an odd value -/
structure OddD (d : PyData) : Prop where
  short : shortD d = true
  sz : szD d ≤ 20
  noT : termD d = false
  noN : nameD d = false
theorem odds_odd : ∀ d, d ∈ odds → OddD d := by
  have e : (odds.all fun d => shortD d && decide (szD d ≤ 20) && !termD d && !nameD d) = true := by decide +kernel
  intro d hd
  have z := List.all_eq_true.mp e d hd
  simp only [Bool.and_eq_true, Bool.not_eq_true', decide_eq_true_eq] at z
  obtain ⟨⟨⟨h1, h2⟩, h3⟩, h4⟩ := z
  exact ⟨h1, h2, h3, h4⟩
/-- what is asked of a term -/
structure TermD (d : PyData) : Prop where
  td : termD d = true
  short : shortD d = true
  sz : szD d ≤ 200
theorem termD_of {l : List NK} {d : PyData} (g : Good l) (t : Tm l 3 d) : TermD d := by
  refine ⟨?_, short_formed d t.fm, ?_⟩
  · rw [termD, t.fm, Bool.true_and, decide_eq_true_eq]
    exact fun p hp q hq => g.fn p (t.rw p hp) q (t.rw q hq)
  · have := sz_formed 3 d t.fm t.dp
    omega
section
variable {K : PySem.W.Frag} {H0 H : Hp} {Q : VK} {E : XK} {CN CT : Addr}
theorem mk_badN {x : V} {d : PyData} {rest : List V} {ds : List PyData} (e : ExtN H0 H) (hx : Dx K H0 x d) (hr : DxAll K H0 rest ds) (hd : OddD d) (few : ds.length ≤ 100) (sh : shortAll ds = true) (sz : szAll ds ≤ 1000) (q : ∀ H', Same H H' → E (.ref CN) none H') : spMk K CN CT (x :: rest) H Q E := by
  have lr := hr.length
  refine ⟨[x], rest, rfl, rfl, Nat.le_of_lt (small1000 (by omega)), fun p np => ?_⟩
  have s := same_put (o := .tup rest) np
  refine ⟨x, d, p, rest, ds, rfl, upd_same, (hx.ext e).up s, (hr.ext e).up s, by simp [shortD, shortAll, hd.short, sh], by have := hd.sz; simp only [szD, szAll]; omega, few, fun _ H' s' => q H' (s.trans s'), fun z => ?_⟩
  rw [hd.noN] at z
  cases z
theorem mk_badT {z : Str} {rest : List V} {ds : List PyData} (e : ExtN H0 H) (hr : DxAll K H0 rest ds) (hz : isNm z = true) (few : ds.length ≤ 100) (sh : shortAll ds = true) (sz : szAll ds ≤ 1000) (bad : termD (.tuple (.str z :: ds)) = false) (q : ∀ H', Same H H' → E (.ref CT) none H') : spMk K CN CT (.str z :: rest) H Q E := by
  have lr := hr.length
  refine ⟨[.str z], rest, rfl, rfl, Nat.le_of_lt (small1000 (by omega)), fun p np => ?_⟩
  have s := same_put (o := .tup rest) np
  refine ⟨.str z, .str z, p, rest, ds, rfl, upd_same, .str z, (hr.ext e).up s, by simp [shortD, shortAll, sh, nm_short hz], by simp only [szD, szAll]; omega, few, fun h => ?_, fun _ => ⟨bad, fun H' s' => q H' (s.trans s')⟩⟩
  rw [show nameD (.str z) = isNm z from rfl, hz] at h
  cases h
theorem cells_bad {rest : List V} {ds : List PyData} (e : ExtN H0 H) (hr : DxAll K H0 rest ds) (few : ds.length ≤ 100) (sh : shortAll ds = true) (bad : ds.all nameD = false) (q : ∀ H', Same H H' → E (.ref CN) none H') : spCells K CN rest H Q E := by
  have lr := hr.length
  refine ⟨[], rest, rfl, rfl, Nat.le_of_lt (small1000 (by omega)), fun p np => ?_⟩
  have s := same_put (o := .tup rest) np
  exact ⟨p, rest, ds, rfl, upd_same, (hr.ext e).up s, sh, bad, fun H' s' => q H' (s.trans s')⟩
/-- te makes a list of these words -/
def MkW (K : PySem.W.Frag) (te : TE) (ws : List Str) : Prop := ∀ (σ : L2.St) (H : Hp) (Q : VK), (∀ p H', Same H H' → H' p = some (.lst (ws.map V.str)) → Q (.ref p) H') → te σ H Q
theorem rep_flat (w : Str) : ∀ n : Nat, (List.replicate n [V.str w]).flatten = (List.replicate n w).map V.str
  | 0 => rfl
  | n + 1 => by rw [List.replicate_succ, List.replicate_succ, List.flatten_cons, List.map_cons, rep_flat w n]; rfl
theorem mkw_rep (w : Str) (n : Nat) (few : n ≤ 100) : MkW K (tOp rRep (tLst (tCons (tC (.str w)) tNil)) (tC (.int (n : Int)))) (List.replicate n w) := fun σ H Q q => by
  refine ⟨by show 1 ≤ sizeLine; decide, fun p np => ⟨p, n, _, rfl, rfl, upd_same, by omega, by omega, ?_, fun p2 np2 => ?_⟩⟩
  · rw [Int.toNat_natCast]
    exact Nat.le_of_lt (small1000 (by show 1 * n ≤ 1000; omega))
  · refine q p2 _ ((same_put np).trans (same_put np2)) ?_
    rw [upd_same, Int.toNat_natCast]
    rw [rep_flat]
theorem mkw_cat {t1 t2 : TE} {ws us : List Str} (h1 : MkW K t1 ws) (h2 : MkW K t2 us) (few : ws.length + us.length ≤ 100) : MkW K (tOp rCat t1 t2) (ws ++ us) := fun σ H Q q =>
  h1 σ H _ fun p H1 s1 e1 => h2 σ H1 _ fun p2 H2 s2 e2 => ⟨p, p2, _, _, rfl, rfl, s2 _ _ e1, e2, by rw [List.length_map, List.length_map]; exact Nat.le_of_lt (small1000 (by omega)), fun p3 np => q p3 _ (s1.trans (s2.trans (same_put np))) (by rw [upd_same, List.map_append])⟩
theorem dpAll_strs : ∀ ws : List Str, DpAll K H (ws.map V.str) (ws.map PyData.str)
  | [] => .nil
  | w :: ws => .cons (.str w) (dpAll_strs ws)
theorem dp_strs {p : Addr} {ws : List Str} (h : H p = some (.lst (ws.map V.str))) : Dp K H (.ref p) (.list (ws.map PyData.str)) := .lst (SqL.of h) (dpAll_strs ws)
theorem lay_strs : ∀ ws : List Str, ws.all PyData.strOk = true → PyData.canLayAll0 (ws.map PyData.str) = true ∧ PyData.depthAll (ws.map PyData.str) = 0 ∧ PyData.eqvAll (ws.map PyData.str) (ws.map PyData.str) = true
  | [], _ => ⟨rfl, rfl, by simp [PyData.eqvAll]⟩
  | w :: ws, h => by
    rw [List.all_cons, Bool.and_eq_true] at h
    obtain ⟨a, b, c⟩ := lay_strs ws h.2
    refine ⟨by simp [PyData.canLayAll0, PyData.canLay0, a, h.1], by simp [PyData.depthAll, PyData.depth, b], by simp [PyData.eqvAll, PyData.eqv, c]⟩
/-- told == .. -/
theorem eq_says {tabs : List (Addr × Str)} {σ : L2.St} {i : Nat} {l : Addr} {ws : List Str} {te : TE} (hi : σ[i]? = some (some (.ref l))) (h : Lst tabs H0 l ws H) (m : MkW K te ws) (ok : ws.all PyData.strOk = true) (q : ∀ H', Same H H' → Q (.bl true) H') : tOp (rEqF K) (tVar i) te σ H Q :=
  ⟨_, hi, m σ H _ fun p H1 s e => by
    obtain ⟨a, b, c⟩ := lay_strs ws ok
    refine ⟨_, _, dp_strs (s _ _ h.at_), dp_strs e, by simpa [PyData.canLay0] using a, by simpa [PyData.canLay0] using a, by simp [PyData.depth, b], ?_⟩
    rw [show PyData.eqv (.list (ws.map PyData.str)) (.list (ws.map PyData.str)) = true by simpa [PyData.eqv] using c]
    exact q H1 s⟩
end
end K05
/-! The law of k05: terms and cells made. -/
namespace Kx
open PySem PySem.Spec PyProof.Rows L2 LamX
/-- a def by its body, its code object told -/
theorem okC {P : Program} {w : World} {K : PySem.W.Frag} {mg : Str → Option Value} {base : Heap} {x qual : Str} {st : Stmt} {f : Addr} {fd : FuncData} {N ps : List Str} {k : Nat} {sp : Sp} (F : Fun K x qual st f fd) (S : FnScope N ps (defScope st)) (len : ∀ vs H Q E, sp vs H Q E → vs.length = ps.length)
    (hbody : ∀ (cdv : Value) (A : Around) (outer : List Env) (s : Shared) (H : Hp) (vs : List V) (Q : VK) (E : XK), fd.code = cdv → Room k (A.deeper (envOfC qual (defScope st) s.heap.objs.size f cdv)) → sp vs H Q E →
      ∃ t, PSs (cxOf CX0 P w K mg base N qual (defScope st) f cdv A outer s H E).nox (defBody st) t ∧ t { nx := fun _ H' => Q .non H', rt := Q } (start N vs) H) : FnOk P w K mg base CX0 (k + 1) f fd ps sp := by
  obtain ⟨oc, od, kV, doc, pm, an, cdv, ct, osl, rfl, lk, hcd⟩ := F.ex
  refine fn_of lk hcd S len fun A outer s H vs Q E hr hsp => ?_
  obtain ⟨t, h, q⟩ := hbody cdv A outer s H vs Q E rfl hr hsp
  exact ⟨t, h.nox, q⟩
end Kx
namespace K05
open PySem PySem.Spec PyProof.Rows L2 Kx LamX
/-- all but the dice and the tables stay -/
def Bt (a : Addr) (H H' : Hp) : Prop := ∀ b o, H b = some o → b ≠ a → (∀ ps, o ≠ .tbl ps) → H' b = some o
section
variable {a b : Addr} {n : Nat} {H H' H1 H2 : Hp} {K : PySem.W.Frag} {T : List (Addr × Str)}
theorem Bt.refl : Bt a H H := fun _ _ h _ _ => h
theorem Bt.but (x : But a H H') : Bt a H H' := fun b o h m _ => x b o h m
theorem Bt.same (x : Same H H') : Bt a H H' := fun b o h _ _ => x b o h
theorem Bt.ext (x : ExtN H H') : Bt a H H' := fun b o h _ m => x b o h m
theorem Bt.trans (x : Bt a H H1) (y : Bt a H1 H2) : Bt a H H2 := fun b o h m k => y b o (x b o h m k) m k
theorem Bt.tups (x : Bt a H H') (d : Dice H a n) : Tups H H' := fun b xs h => by
  obtain ⟨_, _, _, z, _⟩ := d
  exact x b _ h (ne_of h z (fun e => nomatch e)) (fun ps e => nomatch e)
theorem Bt.dx (x : Bt a H H') (d : Dice H a n) {v : V} {e : PyData} (f : formedD e = true) (h : Dx K H v e) : Dx K H' v e := Dx.ts (x.tups d) e v (pure_formed e f) h
theorem Bt.rows (x : Bt a H H') (d : Dice H a n) {f : Addr} {zs : List Rw} (h : RowsIn H f zs) (nf : f ≠ a) : RowsIn H' f zs := by
  obtain ⟨_, _, _, hz, _⟩ := d
  exact ⟨x _ _ h.1 nf (fun ps e => nomatch e), fun z m => x _ _ (h.2 z m) (ne_of (h.2 z m) hz (fun e => nomatch e)) (fun ps e => nomatch e)⟩
theorem dice_ext (d : Dice H a n) (x : ExtN H H') : Dice H' a n := by
  obtain ⟨i0, i1, i2, z, r⟩ := d
  exact ⟨i0, i1, i2, x _ _ z (fun ps e => nomatch e), r⟩
theorem tabs_same (t : Tabs T H) (x : Same H H') : Tabs T H' := t.ext x
theorem tabs_but (t : Tabs T H) (x : But a H H') (d : Dice H a n) : Tabs T H' := fun p hp => by
  obtain ⟨_, _, _, hz, _⟩ := d
  obtain ⟨ps, h1, h2, h3⟩ := t p hp
  refine ⟨ps, x _ _ h1 (ne_of h1 hz (fun e => nomatch e)), h2, fun pos cv hc => ?_⟩
  obtain ⟨c, e1, e2⟩ := h3 pos cv hc
  exact ⟨c, e1, x _ _ e2 (ne_of e2 hz (fun e => by unfold CodeO at e; cases e))⟩
theorem off_one (d : Dice H a n) : Olds [a] H := fun b hb z => by
  rw [List.mem_singleton.mp hb] at z
  obtain ⟨_, _, _, h, _⟩ := d
  rw [h] at z
  cases z
theorem bt_offs (x : Bt a H H') : ExtN (OffS [a] H) (OffS [a] H') := fun b o h n => by
  obtain ⟨nb, h⟩ := OffS.of h
  exact OffS.out nb (x b o h (fun e => nb (by rw [e]; exact List.mem_singleton_self _)) n)
theorem offs_all {d : PyData} {v : V} (h : Dx K (OffS [a] H) v d) : Dx K H v d := h.up OffS.all
theorem bt_lst {T : List (Addr × Str)} {H0 : Hp} {l : Addr} {ws : List Str} (x : Bt a H H0) (h : Lst T H0 l ws H1) : Bt a H H1 := x.trans (.ext h.ext)
end
section
variable {P : Program} {w : World} {K : PySem.W.Frag} {mg : Str → Option Value} {base : Heap}
def spMr (K : PySem.W.Frag) (tabs : List (Addr × Str)) : Sp := fun vs H Q _ => ∃ (a : Addr) (n : Nat) (x : V) (d : PyData), vs = [.ref a, x] ∧ Dice H a n ∧ n + 2 < cap ∧ Dx K H x d ∧ TermD d ∧ Tabs tabs H ∧
  ∀ H', Bt a H H' → Dice H' a (n + 2) → Tabs tabs H' → Q (.bl true) H'
theorem ok_mr (T : Tx K mg) (Y : Ty T) (TB : TabB base mg Y.cM Y.PM) : FnOk P w K mg base CX0 12 T.a_law_made_right T.d_law_made_right ["dice", "term"] (spMr K Y.tb) := by
  have nd := sc__law_made_right.nd
  have Go := ok_odd (P := P) (w := w) (base := base) T
  have Gm := ok_make (P := P) (w := w) (base := base) T
  have Gc := ok_cells (P := P) (w := w) (base := base) T
  refine okC T.f_law_made_right sc__law_made_right (fun vs H Q E h => ?_) (fun cdv A outer s H vs Q E ecd hr h => ?_)
  · obtain ⟨a, n, x, d, rfl, _⟩ := h
    rfl
  · obtain ⟨a, n, x, d, rfl, hd, hn, dx, tm, tt, q⟩ := h
    have ec : cdv = .ref Y.cM := by rw [← ecd, Y.codeM]
    refine ⟨_, (pss_cons (ps_asg (pe_tup (pa_cons (pe_call Go (hr.mono (by omega)) (by rfl) T.g_law_odd T.f_law_odd.kp T.n_law_odd .nil pass0 (pa_cons (pv 0) pa_nil)) (pa_cons (pe_call Go (hr.mono (by omega)) (by rfl) T.g_law_odd T.f_law_odd.kp T.n_law_odd .nil pass0 (pa_cons (pv 0) pa_nil)) pa_nil))) (pg_tup rfl (pgs_cons (pg_name (i := 4) nd rfl (.inr rfl)) (pgs_cons (pg_name (i := 3) nd rfl (.inr rfl)) pgs_nil))))
      (pss_cons (ps_set (i := 2) nd rfl (.inl rfl) (pe_lst (pa_cons (pe_raised T Y.kn (k := 9) (by rfl) TB ec Y.hM.1 Y.hM.2 (hr.mono (by omega)) (lamS_by (sc := defScope s__law_made_right) (by decide +kernel)) rfl (fun _ _ _ _ _ => rfl) (fun A2 outer2 s2 H2 E2 f2 c2 hr2 => (pe_callR Gm (hr2.mono (by omega)) (by rfl) T.gmake_term T.fmake_term.kp (passes_call (takes_of rfl rfl rfl rfl) (fun _ _ _ _ h => h)) (pa_cons (pv 4) pa_nil)))) pa_nil)))
      (pss_cons (ps_expr (pe_bm PySem.F.plainAttrs_list PySem.F.slot_list_append PySem.F.type_list_append mt_append (pv 2) (pa_cons (pe_raised T Y.kn (k := 9) (by rfl) TB ec Y.hM.1 Y.hM.2 (hr.mono (by omega)) (lamS_by (sc := defScope s__law_made_right) (by decide +kernel)) rfl (fun _ _ _ _ _ => rfl) (fun A2 outer2 s2 H2 E2 f2 c2 hr2 => (pe_callR Gm (hr2.mono (by omega)) (by rfl) T.gmake_term T.fmake_term.kp (passes_call (takes_of rfl rfl rfl rfl) (fun _ _ _ _ h => h)) (pa_cons (pv 4) (pa_cons (pv 3) pa_nil))))) pa_nil)))
      (pss_cons (ps_expr (pe_bm PySem.F.plainAttrs_list PySem.F.slot_list_append PySem.F.type_list_append mt_append (pv 2) (pa_cons (pe_raised T Y.kn (k := 9) (by rfl) TB ec Y.hM.1 Y.hM.2 (hr.mono (by omega)) (lamS_by (sc := defScope s__law_made_right) (by decide +kernel)) rfl (fun _ _ _ _ _ => rfl) (fun A2 outer2 s2 H2 E2 f2 c2 hr2 => (pe_callR Gm (hr2.mono (by omega)) (by rfl) T.gmake_term T.fmake_term.kp (passes_call (takes_of rfl rfl rfl rfl) (fun _ _ _ _ h => h)) (pa_cons pe_str (pa_cons (pv 4) pa_nil))))) pa_nil)))
      (pss_cons (ps_expr (pe_bm PySem.F.plainAttrs_list PySem.F.slot_list_append PySem.F.type_list_append mt_append (pv 2) (pa_cons (pe_raised T Y.kn (k := 9) (by rfl) TB ec Y.hM.1 Y.hM.2 (hr.mono (by omega)) (lamS_by (sc := defScope s__law_made_right) (by decide +kernel)) rfl (fun _ _ _ _ _ => rfl) (fun A2 outer2 s2 H2 E2 f2 c2 hr2 => (pe_callR Gm (hr2.mono (by omega)) (by rfl) T.gmake_term T.fmake_term.kp (passes_call (takes_of rfl rfl rfl rfl) (fun _ _ _ _ h => h)) (pa_cons pe_str (pa_cons (pv 1) (pa_cons (pv 3) pa_nil)))))) pa_nil)))
      (pss_cons (ps_expr (pe_bm PySem.F.plainAttrs_list PySem.F.slot_list_append PySem.F.type_list_append mt_append (pv 2) (pa_cons (pe_raised T Y.kn (k := 9) (by rfl) TB ec Y.hM.1 Y.hM.2 (hr.mono (by omega)) (lamS_by (sc := defScope s__law_made_right) (by decide +kernel)) rfl (fun _ _ _ _ _ => rfl) (fun A2 outer2 s2 H2 E2 f2 c2 hr2 => (pe_callR Gm (hr2.mono (by omega)) (by rfl) T.gmake_term T.fmake_term.kp (passes_call (takes_of rfl rfl rfl rfl) (fun _ _ _ _ h => h)) (pa_cons pe_str (pa_cons (pv 1) (pa_cons (pv 1) (pa_cons (pv 1) (pa_cons (pv 1) pa_nil)))))))) pa_nil)))
      (pss_cons (ps_expr (pe_bm PySem.F.plainAttrs_list PySem.F.slot_list_append PySem.F.type_list_append mt_append (pv 2) (pa_cons (pe_raised T Y.kn (k := 9) (by rfl) TB ec Y.hM.1 Y.hM.2 (hr.mono (by omega)) (lamS_by (sc := defScope s__law_made_right) (by decide +kernel)) rfl (fun _ _ _ _ _ => rfl) (fun A2 outer2 s2 H2 E2 f2 c2 hr2 => (pe_callR Gm (hr2.mono (by omega)) (by rfl) T.gmake_term T.fmake_term.kp (passes_call (takes_of rfl rfl rfl rfl) (fun _ _ _ _ h => h)) (pa_cons pe_str (pa_cons (pv 1) (pa_cons (pv 1) (pa_cons (pv 1) (pa_cons (pv 4) pa_nil)))))))) pa_nil)))
      (pss_cons (ps_expr (pe_bm PySem.F.plainAttrs_list PySem.F.slot_list_append PySem.F.type_list_append mt_append (pv 2) (pa_cons (pe_ifExp (pt_cmpR op_ne (pe_callB call_len_seq (by rfl) T.b_len (by decide +kernel) (pa_cons (pv 1) pa_nil)) pe_int (nomark _)) (pe_raised T Y.kn (k := 9) (by rfl) TB ec Y.hM.1 Y.hM.2 (hr.mono (by omega)) (lamS_by (sc := defScope s__law_made_right) (by decide +kernel)) rfl (fun _ _ _ _ _ => rfl) (fun A2 outer2 s2 H2 E2 f2 c2 hr2 => (pe_callR Gm (hr2.mono (by omega)) (by rfl) T.gmake_term T.fmake_term.kp (passes_call (takes_of rfl rfl rfl rfl) (fun _ _ _ _ h => h)) (pa_cons (pe_ix (r := rIxT K) ix_tup (pv 1) pe_int (fun _ _ => rfl)) (pa_cons (pv 1) pa_nil))))) pe_str) pa_nil)))
      (pss_cons (ps_expr (pe_bm PySem.F.plainAttrs_list PySem.F.slot_list_append PySem.F.type_list_append mt_append (pv 2) (pa_cons (pe_raised T Y.kn (k := 9) (by rfl) TB ec Y.hM.1 Y.hM.2 (hr.mono (by omega)) (lamS_by (sc := defScope s__law_made_right) (by decide +kernel)) rfl (fun _ _ _ _ _ => rfl) (fun A2 outer2 s2 H2 E2 f2 c2 hr2 => (pe_callR Gc (hr2.mono (by omega)) (by rfl) T.gmake_cells T.fmake_cells.kp (passes_call (takes_of rfl rfl rfl rfl) (fun _ _ _ _ h => h)) (pa_cons (pv 4) pa_nil)))) pa_nil)))
      (pss_cons (ps_expr (pe_bm PySem.F.plainAttrs_list PySem.F.slot_list_append PySem.F.type_list_append mt_append (pv 2) (pa_cons (pe_raised T Y.kn (k := 9) (by rfl) TB ec Y.hM.1 Y.hM.2 (hr.mono (by omega)) (lamS_by (sc := defScope s__law_made_right) (by decide +kernel)) rfl (fun _ _ _ _ _ => rfl) (fun A2 outer2 s2 H2 E2 f2 c2 hr2 => (pe_callR Gc (hr2.mono (by omega)) (by rfl) T.gmake_cells T.fmake_cells.kp (passes_call (takes_of rfl rfl rfl rfl) (fun _ _ _ _ h => h)) (pa_cons pe_str (pa_cons (pv 4) (pa_cons pe_str pa_nil)))))) pa_nil)))
      (pss_cons (ps_expr (pe_bm PySem.F.plainAttrs_list PySem.F.slot_list_append PySem.F.type_list_append mt_append (pv 2) (pa_cons (pe_raised T Y.kn (k := 9) (by rfl) TB ec Y.hM.1 Y.hM.2 (hr.mono (by omega)) (lamS_by (sc := defScope s__law_made_right) (by decide +kernel)) rfl (fun _ _ _ _ _ => rfl) (fun A2 outer2 s2 H2 E2 f2 c2 hr2 => (pe_callR Gc (hr2.mono (by omega)) (by rfl) T.gmake_cells T.fmake_cells.kp (passes_call (takes_of rfl rfl rfl rfl) (fun _ _ _ _ h => h)) (pa_cons (pv 4) (pa_cons (pv 3) pa_nil))))) pa_nil)))
      (pss_one (ps_ret (pe_cmpR (op_eqF (room200 hr)) (pv 2) (pe_op op_cat (pe_op op_cat (pe_op op_rep (pe_lst (pa_cons pe_str pa_nil)) pe_int) (pe_op op_rep (pe_lst (pa_cons pe_str pa_nil)) pe_int)) (pe_op op_rep (pe_lst (pa_cons pe_str pa_nil)) pe_int)) (nomark _))))))))))))))), ?_⟩
    refine ⟨_, rfl, a, n, [a], rfl, hd, by omega, List.mem_singleton_self _, off_one hd, fun xo do' H1 bt1 d1 dxo mo => ?_⟩
    refine ⟨_, rfl, a, n + 1, [a], rfl, d1, by omega, List.mem_singleton_self _, off_one d1, fun xm dm H2 bt2 d2 dxm mm => ?_⟩
    refine ⟨by show 2 ≤ sizeLine; decide, fun p np => ?_⟩
    refine ⟨p, _, rfl, SqT.of upd_same, rfl, _, _, rfl, _, _, rfl, rfl, ?_⟩
    have s3 := same_put (o := .tup [xo, xm]) np
    have so := odds_odd _ mo
    have sm := odds_odd _ mm
    have b12 : Bt a H H2 := (Bt.but bt1).trans (.but bt2)
    have dxo3 := (offs_all (dxo.ext (bt_offs (.but bt2)))).up s3
    have dxm3 := (offs_all dxm).up s3
    have dx3 := (b12.dx hd (termD_formed tm.td) dx).up s3
    have t3 := (tabs_but (tabs_but tt bt1 hd) bt2 d1).ext s3
    have b3 := b12.trans (.same s3)
    have d3 := d2.up s3
    generalize upd H2 p (.tup [xo, xm]) = H3 at dxo3 dxm3 dx3 t3 b3 d3 ⊢
    clear s3 b12 bt1 bt2 d1 d2 dxo dxm np
    have tf := termD_formed tm.td
    obtain ⟨nm, ds, rfl⟩ : ∃ nm ds, d = .tuple (.str nm :: ds) := by
      cases d with
      | tuple ds =>
        cases ds with
        | nil => cases tf
        | cons e ds => cases e with
          | str z => exact ⟨z, ds, rfl⟩
          | _ => simp [formedD, nameD] at tf
      | _ => cases tf
    have hnm : isNm nm = true := by
      rw [formedD, Bool.and_eq_true, Bool.and_eq_true] at tf
      exact tf.1.2
    have dx3' := dx3
    cases dx3' with
    | @tup b xs _ eb hxs =>
    cases hxs with
    | @cons v0 vs _ _ h0 hvs =>
    cases h0
    have lvs := hvs.length
    refine asg_says t3 (says_lam wdN fun H E Q e q => ⟨_, rfl, mk_badN e dxo3 .nil so (by show _ ≤ 100; simp) (by simp [shortAll, so.short, sm.short, tm.short]) (by have := so.sz; have := sm.sz; have := tm.sz; simp only [szAll]; omega) q⟩) fun l H4 L4 => ?_
    refine app_says rfl L4 (says_lam wdN fun H E Q e q => ⟨_, rfl, _, rfl, mk_badN e dxo3 (.cons dxm3 .nil) so (by show _ ≤ 100; simp) (by simp [shortAll, so.short, sm.short, tm.short]) (by have := so.sz; have := sm.sz; have := tm.sz; simp only [szAll]; omega) q⟩) (by decide) fun H5 L5 => ?_
    refine app_says rfl L5 (says_lam wdT fun H E Q e q => ⟨_, rfl, mk_badT e (.cons dxo3 .nil) (by decide +kernel) (by show _ ≤ 100; simp) (by simp [shortAll, so.short, sm.short, tm.short]) (by have := so.sz; have := sm.sz; have := tm.sz; simp only [szAll]; omega) (term_no (List.mem_singleton_self _) so.noT) q⟩) (by decide) fun H6 L6 => ?_
    refine app_says rfl L6 (says_lam wdT fun H E Q e q => ⟨_, rfl, _, rfl, mk_badT e (.cons dx3 (.cons dxm3 .nil)) (by decide +kernel) (by show _ ≤ 100; simp) (by simp [shortAll, so.short, sm.short, tm.short]) (by have := so.sz; have := sm.sz; have := tm.sz; simp only [szAll]; omega) (term_no (List.mem_cons_of_mem _ (List.mem_singleton_self _)) sm.noT) q⟩) (by decide) fun H7 L7 => ?_
    refine app_says rfl L7 (says_lam wdT fun H E Q e q => ⟨_, rfl, _, rfl, _, rfl, _, rfl, mk_badT e (.cons dx3 (.cons dx3 (.cons dx3 (.cons dx3 .nil)))) (by decide +kernel) (by show _ ≤ 100; simp) (by simp [shortAll, so.short, sm.short, tm.short]) (by have := so.sz; have := sm.sz; have := tm.sz; simp only [szAll]; omega) (term_many (by show 3 < 4; decide)) q⟩) (by decide) fun H8 L8 => ?_
    refine app_says rfl L8 (says_lam wdT fun H E Q e q => ⟨_, rfl, _, rfl, _, rfl, _, rfl, mk_badT e (.cons dx3 (.cons dx3 (.cons dx3 (.cons dxo3 .nil)))) (by decide +kernel) (by show _ ≤ 100; simp) (by simp [shortAll, so.short, sm.short, tm.short]) (by have := so.sz; have := sm.sz; have := tm.sz; simp only [szAll]; omega) (term_many (by show 3 < 4; decide)) q⟩) (by decide) fun H9 L9 => ?_
    refine app_says (w := "term") rfl L9 ?_ (by decide) fun H10 L10 => ?_
    · intro H Q e tt q
      have hb := e _ _ eb (fun ps z => nomatch z)
      refine ⟨_, rfl, b, _, rfl, .inr (SqT.of hb), rfl, _, rfl, ?_⟩
      by_cases l1 : ds.length = 1
      · have z : (!decide (V.int (((V.str nm :: vs).length : Nat) : Int) = V.int 2)) = false := by
          rw [List.length_cons, lvs, l1]
          rfl
        show if (!decide (V.int (((V.str nm :: vs).length : Nat) : Int) = V.int 2)) = true then _ else _
        rw [z]
        exact iteF (q H (ExtN.refl _) tt)
      · have z : (!decide (V.int (((V.str nm :: vs).length : Nat) : Int) = V.int 2)) = true := by
          rw [Bool.not_eq_true', decide_eq_false_iff_not]
          intro z
          have := V.int.inj z
          rw [List.length_cons, lvs] at this
          omega
        show if (!decide (V.int (((V.str nm :: vs).length : Nat) : Int) = V.int 2)) = true then _ else _
        rw [z]
        exact iteT ((says_lam (σ := [some (.ref a), some (.ref b), some (.ref l), some xm, some xo]) wdT fun H E Q e q => ⟨_, rfl, _, _, 0, _, rfl, rfl, SqT.of (e _ _ eb (fun ps z => nomatch z)), atI_nat (j := 0) rfl, _, rfl, mk_badT e (.cons dx3 .nil) hnm (by show _ ≤ 100; simp) (by simp [shortAll, so.short, sm.short, tm.short]) (by have := so.sz; have := sm.sz; have := tm.sz; simp only [szAll]; omega) (term_clash l1) q⟩) H Q e tt q)
    refine app_says rfl L10 (says_lam wdN fun H E Q e q => ⟨_, rfl, cells_bad e (.cons dxo3 .nil) (by show _ ≤ 100; simp) (by simp [shortAll, so.short, sm.short, tm.short]) (by simp [so.noN]) q⟩) (by decide) fun H11 L11 => ?_
    refine app_says rfl L11 (says_lam wdN fun H E Q e q => ⟨_, rfl, cells_bad e (.cons (.str _) (.cons dxo3 (.cons (.str _) .nil))) (by show _ ≤ 100; simp) (by simp [shortAll, shortD, (by decide : ("a" : Str).length ≤ 1000), (by decide : ("b" : Str).length ≤ 1000), so.short, sm.short, tm.short]) (by simp [so.noN]) q⟩) (by decide) fun H12 L12 => ?_
    refine app_says rfl L12 (says_lam wdN fun H E Q e q => ⟨_, rfl, _, rfl, cells_bad e (.cons dxo3 (.cons dxm3 .nil)) (by show _ ≤ 100; simp) (by simp [shortAll, so.short, sm.short, tm.short]) (by simp [so.noN]) q⟩) (by decide) fun H13 L13 => ?_
    refine eq_says (ws := ["name", "name", "term", "term", "term", "term", "term", "name", "name", "name"]) rfl L13 (mkw_cat (mkw_cat (mkw_rep "name" 2 (by decide)) (mkw_rep "term" 5 (by decide)) (by decide)) (mkw_rep "name" 3 (by decide)) (by decide)) (by decide +kernel) fun H14 s14 => ?_
    exact q H14 ((bt_lst b3 L13).trans (.same s14)) ((dice_ext d3 L13.ext).up s14) (L13.tabs.ext s14)
end
end K05
/-! list(zip(xs, ys)), two lists. -/
namespace Kx
open PySem PySem.Calls PySem.W PyProof.Rows PyProof.V PySem.Spec
theorem nolen_zip : typeLookup (.type "zip") "__len__" = pure none := by rw [typeLookup_type, builtinLookup_eq_fast]; kernel_rfl
theorem nohint_zip : typeLookup (.type "zip") "__length_hint__" = pure none := by rw [typeLookup_type, builtinLookup_eq_fast]; kernel_rfl
/-- a zip of two lists, i items drawn; S: where they are gathered -/
structure ZlSt (h : Heap) (S z TI TO i1 i2 l1 l2 : Addr) (xs ys : Array Value) (i : Nat) : Prop where
  ti : IsPair h TI (.ref i1) (.ref i2)
  it1 : h.IsListIter i1 l1 i
  it2 : h.IsListIter i2 l2 i
  L1 : h.IsList l1 xs
  L2 : h.IsList l2 ys
  st : (IsZip h z TI TO .none ∧ ∃ a b, IsPair h TO a b) ∨ (∃ T f oT, IsZipHeld h z TI TO T f ∧ h.get? T = some oT ∧ T ≠ S ∧ T ≠ z ∧ T ≠ i1 ∧ T ≠ i2)
structure ZlG (xs ys : Array Value) (lo : Addr) (h : Heap) (as : List Addr) : Prop where
  rise : as.Pairwise (· < ·)
  above : ∀ a ∈ as, lo ≤ a
  pairs : ∀ (j : Nat) (a : Addr), as[j]? = some a → ∃ x y, xs[j]? = some x ∧ ys[j]? = some y ∧ IsPair h a x y
theorem ZlG.there {xs ys : Array Value} {lo : Addr} {h : Heap} {as : List Addr} (g : ZlG xs ys lo h as) {a : Addr} (ha : a ∈ as) : a < h.objs.size := by
  obtain ⟨j, hj⟩ := List.mem_iff_getElem?.mp ha
  obtain ⟨x, y, _, _, e⟩ := g.pairs j a hj
  exact Heap.lt_size e
section
variable {prog : Program} {w : World} {A : Around} {E : Value → Shared → Prop} {s : Shared} {S z TI TO i1 i2 l1 l2 : Addr} {xs ys : Array Value} {i : Nat}
theorem ZlSt.keep {h h' : Heap} (Z : ZlSt h S z TI TO i1 i2 l1 l2 xs ys i) (up : ∀ b o, b ≠ S → h.get? b = some o → h'.get? b = some o) (nz : z ≠ S) (nTI : TI ≠ S) (nTO : TO ≠ S) (n1 : i1 ≠ S) (n2 : i2 ≠ S) (m1 : l1 ≠ S) (m2 : l2 ≠ S) : ZlSt h' S z TI TO i1 i2 l1 l2 xs ys i := by
  refine ⟨up _ _ nTI Z.ti, Z.it1.at fun o e => up _ _ n1 e, Z.it2.at fun o e => up _ _ n2 e, let ⟨o, e, r⟩ := Z.L1; ⟨o, up _ _ m1 e, r⟩, let ⟨o, e, r⟩ := Z.L2; ⟨o, up _ _ m2 e, r⟩, ?_⟩
  rcases Z.st with ⟨a, x, y, b⟩ | ⟨T, f, oT, a, b, c, cr⟩
  · exact .inl ⟨up _ _ nz a, x, y, up _ _ nTO b⟩
  · exact .inr ⟨T, f, oT, up _ _ nz a, up _ _ c b, c, cr⟩
theorem zl_item {x y : Value} {Q : Option Value → Shared → Prop} (D : ZipApart z TI TO i1 i2 l1 l2) (Z : ZlSt s.heap S z TI TO i1 i2 l1 l2 xs ys i) (hS : S < s.heap.objs.size) (hx : xs[i]? = some x) (hy : ys[i]? = some y)
    (hQ : ∀ h', ZlSt h' S z TI TO i1 i2 l1 l2 xs ys (i + 1) → IsPair h' s.heap.objs.size x y → h'.objs.size = s.heap.objs.size + 1 →
      (∀ c o, c ≠ z → c ≠ TO → c ≠ i1 → c ≠ i2 → s.heap.get? c = some o → h'.get? c = some o) → Q (some (.ref s.heap.objs.size)) { s with heap := h' }) :
    wpAny (model prog w) A (pyNext (.ref z)) Q E s := by
  rcases Z.st with ⟨hz, a, b, hTO⟩ | ⟨T, f, oT, hz, hT, nT, nTz, nT1, nT2⟩
  · refine wpAny_pyNext_zip_item D hz Z.ti hTO Z.it1 Z.it2 Z.L1 Z.L2 hx hy fun h' a1 a2 a3 a4 a5 a6 a7 => hQ h' ⟨a7 _ _ D.TIz D.TITO D.TIi1 D.TIi2 Z.ti, a3, a4, ?_, ?_, .inr ⟨s.heap.objs.size, false, _, a1, a5, Nat.ne_of_gt hS, Nat.ne_of_gt (Heap.lt_size hz), Nat.ne_of_gt (let ⟨_, e, _⟩ := Z.it1; Heap.lt_size e), Nat.ne_of_gt (let ⟨_, e, _⟩ := Z.it2; Heap.lt_size e)⟩⟩ a5 a6 a7
    · obtain ⟨o, e, r⟩ := Z.L1
      exact ⟨o, a7 _ _ D.l1z D.l1TO D.l1i1 D.l1i2 e, r⟩
    · obtain ⟨o, e, r⟩ := Z.L2
      exact ⟨o, a7 _ _ D.l2z D.l2TO D.l2i1 D.l2i2 e, r⟩
  · refine wpAny_pyNext_zip_item_held D hz hT Z.ti Z.it1 Z.it2 Z.L1 Z.L2 hx hy fun h' a1 a3 a4 a5 a6 a7 => hQ h' ⟨a7 _ _ D.TIz D.TIi1 D.TIi2 Z.ti, a3, a4, ?_, ?_, .inr ⟨T, true, oT, a1, a7 _ _ nTz nT1 nT2 hT, nT, nTz, nT1, nT2⟩⟩ a5 a6 (fun c o c1 _ c3 c4 e => a7 c o c1 c3 c4 e)
    · obtain ⟨o, e, r⟩ := Z.L1
      exact ⟨o, a7 _ _ D.l1z D.l1i1 D.l1i2 e, r⟩
    · obtain ⟨o, e, r⟩ := Z.L2
      exact ⟨o, a7 _ _ D.l2z D.l2i1 D.l2i2 e, r⟩
theorem zl_done {Q : Option Value → Shared → Prop} (hh : A.handled = none) (D : ZipApart z TI TO i1 i2 l1 l2) (Z : ZlSt s.heap S z TI TO i1 i2 l1 l2 xs ys i) (he : xs[i]? = none ∨ ys[i]? = none)
    (hQ : ∀ h', (∀ c o, c ≠ z → c ≠ TO → c ≠ i1 → c ≠ i2 → s.heap.get? c = some o → h'.get? c = some o) → Q none { s with heap := h' }) : wpAny (model prog w) A (pyNext (.ref z)) Q E s := by
  rcases Z.st with ⟨hz, a, b, hTO⟩ | ⟨T, f, oT, hz, hT, nT, nTz, nT1, nT2⟩
  · exact wpAny_pyNext_zip_end hh D hz Z.ti hTO Z.it1 Z.it2 Z.L1 Z.L2 he hQ
  · exact wpAny_pyNext_zip_end_held hh D hz hT Z.ti Z.it1 Z.it2 Z.L1 Z.L2 he fun h' k => hQ h' fun c o c1 _ c3 c4 e => k c o c1 c3 c4 e
end
section
variable {prog : Program} {w : World} {A : Around} {s : Shared} {R : Result → Shared → Prop} {S z TI TO i1 i2 l1 l2 : Addr} {xs ys : Array Value} {n : Nat}
theorem zl_loop {lo : Addr} (hh : A.handled = none) (D : ZipApart z TI TO i1 i2 l1 l2) (hx : xs.size = n) (hy : ys.size = n) (oS : S < lo) (oz : z < lo) (oTO : TO < lo) (o1 : i1 < lo) (o2 : i2 < lo)
    (nz : z ≠ S) (nTI : TI ≠ S) (nTO : TO ≠ S) (n1 : i1 ≠ S) (n2 : i2 ≠ S) (m1 : l1 ≠ S) (m2 : l2 ≠ S) (hn : n ≤ sizeLine) (res : Value) {h₁ : Heap}
    (hR : ∀ h' tk acc c as, (∀ b o, b ≠ S → b ≠ z → b ≠ TO → b ≠ i1 → b ≠ i2 → h₁.get? b = some o → h'.get? b = some o) → h'.get? S = some { cls := .type "list", dict := none, data := .seq acc c, slots := #[] } → as.length = n → ZlG xs ys lo h' as →
      acc.toList = as.map Value.ref → R (.ok (.ret res)) { s with heap := h', toks := tk }) :
    ∀ (k i : Nat) (h : Heap) (tk c : Nat) (acc : Array Value) (as : List Addr), n - i = k → i ≤ n → ZlSt h S z TI TO i1 i2 l1 l2 xs ys i → (∀ b o, b ≠ S → b ≠ z → b ≠ TO → b ≠ i1 → b ≠ i2 → h₁.get? b = some o → h.get? b = some o) →
      h.get? S = some { cls := .type "list", dict := none, data := .seq acc c, slots := #[] } → acc.toList = as.map Value.ref → as.length = i → ZlG xs ys lo h as → lo ≤ h.objs.size →
      codeAny (model prog w) A (.builtin "list.extend.loop" ⟨[.ref S, .ref z, res], []⟩) R { s with heap := h, toks := tk } := by
  intro k
  induction k with
  | zero =>
    intro i h tk c acc as hk hi hst hkeep hS hacc hal hG hIs
    have hin : i = n := by omega
    refine codeAny_builtin PySem.F.entry_extend_loop ?_
    rw [Around.under_plainId PySem.F.plain_extend_loop _]
    show wpAny _ A.in1 (pyNext (.ref z) >>= _) _ _ _
    refine wpAny_bind (zl_done (s := { s with heap := h, toks := tk }) (A := A.in1) hh D hst (.inl (Array.getElem?_eq_none (by omega))) fun h' he => ?_)
    refine wpAny_pure (hR h' tk acc c as (fun b o h1 h2 h3 h4 h5 e => he b o h2 h3 h4 h5 (hkeep b o h1 h2 h3 h4 h5 e)) (he S _ nz.symm nTO.symm n1.symm n2.symm hS) (by omega) ⟨hG.rise, hG.above, fun j a hj => ?_⟩ hacc)
    obtain ⟨x, y, e1, e2, e3⟩ := hG.pairs j a hj
    have ab := hG.above a (List.mem_of_getElem? hj)
    exact ⟨x, y, e1, e2, he a _ (Nat.ne_of_gt (Nat.lt_of_lt_of_le oz ab)) (Nat.ne_of_gt (Nat.lt_of_lt_of_le oTO ab)) (Nat.ne_of_gt (Nat.lt_of_lt_of_le o1 ab)) (Nat.ne_of_gt (Nat.lt_of_lt_of_le o2 ab)) e3⟩
  | succ k ih =>
    intro i h tk c acc as hk hi hst hkeep hS hacc hal hG hIs
    have hlt : i < n := by omega
    have hsz : acc.size = i := by rw [← Array.length_toList, hacc, List.length_map, hal]
    refine codeAny_builtin PySem.F.entry_extend_loop ?_
    rw [Around.under_plainId PySem.F.plain_extend_loop _]
    show wpAny _ A.in1 (pyNext (.ref z) >>= _) _ _ _
    have ex : xs[i]? = some xs[i] := Array.getElem?_eq_getElem (by omega)
    have ey : ys[i]? = some ys[i] := Array.getElem?_eq_getElem (by omega)
    refine wpAny_bind (zl_item (s := { s with heap := h, toks := tk }) D hst (Heap.lt_size hS) ex ey fun h' hst' ht hz hkp => ?_)
    dsimp only at ht hz hkp ⊢
    have hS' := hkp S _ nz.symm nTO.symm n1.symm n2.symm hS
    have up : ∀ b o, b ≠ S → h'.get? b = some o → (h'.update S (Obj.mapSeq (·.push (Value.ref h.objs.size)))).get? b = some o := fun b o hb e => (Heap.get?_update_other _ _ (Ne.symm hb)).trans e
    have hSl : S < h.objs.size := Heap.lt_size hS
    show wpAny _ A.in1 (updateSeq S (·.push (Value.ref h.objs.size)) >>= _) _ _ _
    refine wpAny_bind ?_
    refine wpAny_updateSeq hS' rfl (wpAny_pure ⟨plainId_quiet PySem.F.plain_extend_loop _, ih (i + 1) _ tk _ (acc.push (Value.ref h.objs.size)) (as ++ [h.objs.size]) (by omega) hlt (hst'.keep up nz nTI nTO n1 n2 m1 m2)
      (fun b o h1 h2 h3 h4 h5 e => up b o h1 (hkp b o h2 h3 h4 h5 (hkeep b o h1 h2 h3 h4 h5 e))) (Heap.get?_update_self _ hS' rfl) (by rw [Array.toList_push, hacc, List.map_append]; rfl) (by rw [List.length_append, hal]; rfl) ⟨?_, ?_, ?_⟩ ?_⟩) (by rw [hsz]; omega) (by show (acc.push (Value.ref h.objs.size)).size ≤ sizeLine + 1; rw [Array.size_push, hsz]; omega)
    · refine List.pairwise_append.mpr ⟨hG.rise, List.pairwise_singleton _ _, fun a ha b hb => ?_⟩
      rw [List.mem_singleton.mp hb]
      exact hG.there ha
    · intro a ha
      rcases List.mem_append.mp ha with ha | ha
      · exact hG.above a ha
      · rw [List.mem_singleton.mp ha]; exact hIs
    · intro j b hj
      rcases Nat.lt_trichotomy j as.length with h1 | h1 | h1
      · rw [List.getElem?_append_left h1] at hj
        obtain ⟨x, y, e1, e2, e3⟩ := hG.pairs j b hj
        have ab := hG.above b (List.mem_of_getElem? hj)
        exact ⟨x, y, e1, e2, up b _ (Nat.ne_of_gt (Nat.lt_of_lt_of_le oS ab)) (hkp b _ (Nat.ne_of_gt (Nat.lt_of_lt_of_le oz ab)) (Nat.ne_of_gt (Nat.lt_of_lt_of_le oTO ab)) (Nat.ne_of_gt (Nat.lt_of_lt_of_le o1 ab)) (Nat.ne_of_gt (Nat.lt_of_lt_of_le o2 ab)) e3)⟩
      · subst h1
        have hb : h.objs.size = b := by simpa using hj
        subst hb
        subst hal
        exact ⟨_, _, ex, ey, up _ _ (Nat.ne_of_gt hSl) ht⟩
      · have hnone : (as ++ [h.objs.size])[j]? = none := List.getElem?_eq_none (by rw [List.length_append, List.length_singleton]; omega)
        rw [hnone] at hj; cases hj
    · have e : (h'.update S (Obj.mapSeq (·.push (Value.ref h.objs.size)))).get? h.objs.size = _ := up _ _ (Nat.ne_of_gt hSl) ht
      exact Nat.le_of_lt (Nat.lt_of_le_of_lt hIs (Heap.lt_size e))
end
section
variable {prog : Program} {w : World} {A : Around} {E : Value → Shared → Prop} {s : Shared} {S z TI TO i1 i2 l1 l2 : Addr} {xs ys : Array Value} {n : Nat}
theorem hint_zip {Q : Bool → Shared → Prop} (hT : s.TypeIs (.ref z) "zip") (h : Q true s) : wpAny (model prog w) A (Builtin.List.listLengthHint (.ref z)) Q E s := by
  unfold Builtin.List.listLengthHint
  refine wpAny_bind (wpAny_specialOf hT nolen_zip ?_)
  show wpAny _ A (specialOf (Value.ref z) (Str.ofString "__length_hint__") >>= _) _ _ _
  refine wpAny_bind (wpAny_specialOf hT nohint_zip ?_)
  exact wpAny_pure h
theorem zl_extend {R : Result → Shared → Prop} (hh : A.handled = none) (D : ZipApart z TI TO i1 i2 l1 l2) (hx : xs.size = n) (hy : ys.size = n)
    (nz : z ≠ S) (nTI : TI ≠ S) (nTO : TO ≠ S) (n1 : i1 ≠ S) (n2 : i2 ≠ S) (m1 : l1 ≠ S) (m2 : l2 ≠ S) (hn : n ≤ sizeLine) (res : Value) (c₀ : Nat) (hz : IsZip s.heap z TI TO .none) (hTO : IsPair s.heap TO .none .none)
    (Z : ZlSt s.heap S z TI TO i1 i2 l1 l2 xs ys 0) (hS : s.heap.get? S = some { cls := .type "list", data := .seq #[] c₀ })
    (hR : ∀ h' tk acc c as, (∀ b o, b ≠ S → b ≠ z → b ≠ TO → b ≠ i1 → b ≠ i2 → s.heap.get? b = some o → h'.get? b = some o) → h'.get? S = some { cls := .type "list", dict := none, data := .seq acc c, slots := #[] } → as.length = n → ZlG xs ys s.heap.objs.size h' as →
      acc.toList = as.map Value.ref → R (.ok (.ret res)) { s with heap := h', toks := tk }) :
    wpAny (model prog w) A.in1 (Builtin.List.listExtendWith (.ref S) (.ref z) res)
      (fun fin s' => match fin with | .done f => R (.ok f) s' | .again c' => c'.quiet = true ∧ codeAny (model prog w) A c' R s') (fun e s' => R (.error e) s') s := by
  have hT : s.TypeIs (.ref z) "zip" := ⟨_, hz, rfl⟩
  have key : ∀ (h : Heap) (c₁ tk : Nat), (∀ b o, b ≠ S → s.heap.get? b = some o → h.get? b = some o) → s.heap.objs.size ≤ h.objs.size →
      h.get? S = some { cls := .type "list", data := .seq #[] c₁ } → codeAny (model prog w) A (.builtin "list.extend.loop" ⟨[.ref S, .ref z, res], []⟩) R { s with heap := h, toks := tk } := by
    intro h c₁ tk hk hsz hS₁
    exact zl_loop (s := s) (h₁ := s.heap) hh D hx hy (Heap.lt_size hS) (Heap.lt_size hz) (Heap.lt_size hTO) (let ⟨_, e, _⟩ := Z.it1; Heap.lt_size e) (let ⟨_, e, _⟩ := Z.it2; Heap.lt_size e) nz nTI nTO n1 n2 m1 m2 hn res hR
      n 0 h tk c₁ #[] [] (Nat.sub_zero _) (Nat.zero_le _) (Z.keep hk nz nTI nTO n1 n2 m1 m2) (fun b o hb _ _ _ _ e => hk b o hb e) hS₁ rfl rfl
      ⟨List.Pairwise.nil, (fun _ ha => nomatch ha), (fun j a hj => by simp at hj)⟩ hsz
  unfold Builtin.List.listExtendWith
  refine wpAny_bind (wpAny_typeOf (T := "zip") hT ?_)
  have h1 : Builtin.List.listSameRef (.ref S) (.ref z) = false := by simp [Builtin.List.listSameRef, nz.symm]
  have h2 : (Value.type "zip" == Value.type "list") = false := by decide
  have h3 : (Value.type "zip" == Value.type "tuple") = false := by decide
  simp only [h1, h2, h3, Bool.or_false, Bool.false_eq_true, if_false]
  refine wpAny_bind (wpAny_pyIter_zip hz ?_)
  refine wpAny_bind (wpAny_holding (hint_zip hT ?_))
  refine wpAny_ite_split (fun _ => ?_) (fun _ => wpAny_pure ⟨plainId_quiet PySem.F.plain_extend_loop _, key _ c₀ _ (fun b o _ e => e) (Nat.le_refl _) hS⟩)
  refine wpAny_bind (wpAny_rule ?_)
  refine wpAny_bind ?_
  show wpAny _ _ (updateSeq S (·.push .none) >>= fun _ => updateSeq S (·.pop)) _ _ _
  refine wpAny_bind (wpAny_updateSeq hS rfl ?_)
  have hS₂ := Heap.get?_update_self (Obj.mapSeq (·.push Value.none)) hS rfl
  refine wpAny_updateSeq (hz := by seq_fits) hS₂ rfl ?_
  have hS₃ := Heap.get?_update_self (Obj.mapSeq (·.pop)) hS₂ rfl
  refine wpAny_pure ⟨plainId_quiet PySem.F.plain_extend_loop _, key _ _ _ (fun b o hb e => ?_) ?_ hS₃⟩
  · exact (Heap.get?_update_other _ _ (Ne.symm hb)).trans ((Heap.get?_update_other _ _ (Ne.symm hb)).trans e)
  · simp
theorem ZlG.low {xs ys : Array Value} {lo lo' : Addr} {h : Heap} {as : List Addr} (g : ZlG xs ys lo h as) (hl : lo' ≤ lo) : ZlG xs ys lo' h as := ⟨g.rise, fun a ha => Nat.le_trans hl (g.above a ha), g.pairs⟩
theorem zl_call {Q : Value → Shared → Prop} (hh : A.handled = none) (D : ZipApart z TI TO i1 i2 l1 l2) (hx : xs.size = n) (hy : ys.size = n) (hn : n ≤ sizeLine) (hz : IsZip s.heap z TI TO .none) (hTI : IsPair s.heap TI (.ref i1) (.ref i2)) (hTO : IsPair s.heap TO .none .none)
    (h1 : s.heap.IsListIter i1 l1 0) (h2 : s.heap.IsListIter i2 l2 0) (hl1 : s.heap.IsList l1 xs) (hl2 : s.heap.IsList l2 ys)
    (hQ : ∀ h' tk acc c as, (∀ b o, b ≠ z → b ≠ TO → b ≠ i1 → b ≠ i2 → s.heap.get? b = some o → h'.get? b = some o) → h'.get? s.heap.objs.size = some { cls := .type "list", dict := none, data := .seq acc c, slots := #[] } → as.length = n → ZlG xs ys (s.heap.objs.size + 1) h' as →
      acc.toList = as.map Value.ref → Q (.ref s.heap.objs.size) { s with heap := h', toks := tk }) :
    wpAny (model prog w) A (call (.type "list") [.ref z]) Q E s := by
  refine callType_codes (Q₁ := fun obj s₁ => obj = .ref s.heap.objs.size ∧ s₁ = { s with heap := s.heap.push { cls := .type "list", data := .seq #[] } }) PySem.F.called_list (PySem.F.typeCall_list_1 _) PySem.F.entry_list_init
    (code_list_new _ ⟨rfl, rfl⟩) fun obj s₁ h₁ => ?_
  obtain ⟨rfl, rfl⟩ := h₁
  have hS : (s.heap.push { cls := .type "list", data := .seq #[] }).get? s.heap.objs.size = some { cls := .type "list", data := .seq #[] } := Heap.get?_push_size _ rfl
  have ne : ∀ {b o}, s.heap.get? b = some o → b ≠ s.heap.objs.size := fun e => Nat.ne_of_lt (Heap.lt_size e)
  have nz := ne hz
  have nTI := ne hTI
  have nTO := ne hTO
  obtain ⟨o1, e1, r1⟩ := h1
  obtain ⟨o2, e2, r2⟩ := h2
  obtain ⟨o3, e3, r3⟩ := hl1
  obtain ⟨o4, e4, r4⟩ := hl2
  refine ⟨⟨_, hS, rfl⟩, PySem.F.args_list_init_2 _ _, ?_⟩
  generalize hSa : s.heap.objs.size = S at hS hQ nz nTI nTO
  have m1 : i1 ≠ S := by rw [← hSa]; exact ne e1
  have m2 : i2 ≠ S := by rw [← hSa]; exact ne e2
  have m3 : l1 ≠ S := by rw [← hSa]; exact ne e3
  have m4 : l2 ≠ S := by rw [← hSa]; exact ne e4
  have sz : (s.heap.push { cls := .type "list", data := .seq #[] }).objs.size = S + 1 := by rw [Heap.size_push, hSa]
  have up : ∀ {b o}, s.heap.get? b = some o → (s.heap.push { cls := .type "list", data := .seq #[] }).get? b = some o := fun e => Heap.get?_push_of_some _ e
  generalize s.heap.push { cls := .type "list", data := .seq #[] } = G at hS sz up ⊢
  show wpAny _ _ (do let old ← Builtin.List.listItems (.ref S); Builtin.List.listUpdate (.ref S) (fun _ => #[]); letGo old.toList.reverse; Builtin.List.listExtendWith (.ref S) (.ref z) .none) _ _ _
  refine wpAny_bind ?_
  unfold Builtin.List.listItems
  refine wpAny_bind (wpAny_seqItems hS rfl (wpAny_pure ?_))
  show wpAny _ _ (updateSeq S (fun _ => #[]) >>= fun _ => letGo (#[] : Array Value).toList.reverse >>= fun _ => Builtin.List.listExtendWith (.ref S) (.ref z) .none) _ _ _
  refine wpAny_bind (wpAny_updateSeq hS rfl ?_)
  have hS₂ := Heap.get?_update_self (Obj.mapSeq (fun _ => (#[] : Array Value))) hS rfl
  have oth : ∀ b o, b ≠ S → s.heap.get? b = some o → (G.update S (Obj.mapSeq (fun _ => (#[] : Array Value)))).get? b = some o :=
    fun b o hb e => (Heap.get?_update_other _ _ (Ne.symm hb)).trans (up e)
  refine wpAny_bind (wpAny_letGo ?_)
  have sz2 : (G.update S (Obj.mapSeq (fun _ => (#[] : Array Value)))).objs.size = S + 1 := by rw [← sz]; simp
  refine zl_extend (A := A.in1) hh D hx hy nz nTI nTO m1 m2 m3 m4 hn .none _ (oth _ _ nz hz) (oth _ _ nTO hTO) ⟨oth _ _ nTI hTI, ⟨o1, oth _ _ m1 e1, r1⟩, ⟨o2, oth _ _ m2 e2, r2⟩, ⟨o3, oth _ _ m3 e3, r3⟩, ⟨o4, oth _ _ m4 e4, r4⟩, .inl ⟨oth _ _ nz hz, _, _, oth _ _ nTO hTO⟩⟩ hS₂ (fun h' tk acc c as hk hS' hl hG hacc => ?_)
  refine ⟨rfl, hQ h' tk acc c as (fun b o b1 b2 b3 b4 e => ?_) hS' hl (hG.low (Nat.le_of_eq sz2.symm)) hacc⟩
  have nb : b ≠ S := by rw [← hSa]; exact ne e
  exact hk b o nb b1 b2 b3 b4 (oth b o nb e)
end
end Kx
/-! list(zip(range(0), f(..))), f a generator def: nothing of it runs. -/
namespace Kx
open PySem PySem.Calls PySem.W PyProof.Rows PyProof.V PySem.Spec
section
variable {prog : Program} {w : World} {A : Around} {E : Value → Shared → Prop} {s : Shared} {z TI TO i1 i2 S : Addr} {x left step : Int}
theorem nextOf_rng {it : Addr} {Q : Value → Shared → Prop} (hh : A.handled = none) (hit : IsRangeIter s.heap it x left step) (hleft : left ≤ 0)
    (hE : ∀ h' e, Heap.ExtBut it s.heap h' → (∃ o, h'.get? e = some o ∧ o.cls = .type "StopIteration") → E (.ref e) { s with heap := h' }) : wpAny (model prog w) A (Builtin.SmallTypes.nextOf (.ref it)) Q E s := by
  unfold Builtin.SmallTypes.nextOf
  refine wpAny_bind (CpRep.range_end hh hit hleft fun e h' st xt => ?_)
  obtain ⟨a, o, vs, rfl, ho, hc, _⟩ := st
  exact hE h' a xt ⟨o, ho, hc⟩
theorem zip0_next (hh : A.handled = none) (n1 : i1 ≠ z) (hz : IsZip s.heap z TI TO .none) (hTI : IsPair s.heap TI (.ref i1) (.ref i2)) (h1 : IsRangeIter s.heap i1 x left step) (hl : left ≤ 0)
    {Q : Option Value → Shared → Prop} (hQ : ∀ h', (∀ c o, c ≠ z → c ≠ i1 → s.heap.get? c = some o → h'.get? c = some o) → Q none { s with heap := h' }) : wpAny (model prog w) A (pyNext (.ref z)) Q E s := by
  have hT : s.TypeIs (.ref z) "zip" := ⟨_, hz, rfl⟩
  unfold pyNext
  refine wpAny_bind (wpAny_attempt (wpAny_callSpecial?_slot (name := Str.ofString "__next__") hT F.slot_zip_next
    (wpAny_call_entry F.slot_zip_next hT F.entry_zip_next ?_ (F.args_zip_next_1 _))))
  show wpAny _ _ (field (.ref z) 2 >>= _) _ _ _
  refine wpAny_bind (wpAny_field hz rfl (x := .bool false) rfl ?_)
  show wpAny _ _ (field (.ref z) 3 >>= _) _ _ _
  refine wpAny_bind (wpAny_field hz rfl (x := .ref TI) rfl ?_)
  refine wpAny_bind (wpAny_seqItems hTI rfl ?_)
  show wpAny _ _ (Builtin.SmallTypes.ownedTupleIsFree (.ref z) >>= _) _ _ _
  refine wpAny_bind ?_
  unfold Builtin.SmallTypes.ownedTupleIsFree
  refine wpAny_bind (wpAny_field hz rfl (x := .none) rfl (wpAny_pure ?_))
  simp only [if_true]
  refine wpAny_bind (wpAny_rule ?_)
  refine wpAny_bind (wpAny_field hz rfl (x := .ref TO) rfl ?_)
  refine wpAny_bind (wpAny_setField_rec hz (by simp) fun h₁ hz₁ hs₁ => ?_)
  replace hz₁ : IsZip h₁ z TI TO .ellipsis := hz₁
  refine wpAny_bind ?_
  simp only [List.zipIdx_cons, List.zipIdx_nil, List.forIn_cons, List.forIn_nil]
  refine wpAny_bind (wpAny_bind (wpAny_onRaise ?_))
  show wpAny _ _ (Builtin.SmallTypes.nextOf (.ref i1) >>= _) _ _ _
  refine wpAny_bind (nextOf_rng hh (hs₁.extBut _ _ n1 h1) hl fun h₂ e hs₂ he => ?_)
  obtain ⟨oe, hoe, hce⟩ := he
  have hz₂ : IsZip h₂ z TI TO .ellipsis := hs₂ _ _ n1.symm hz₁
  have hez : e ≠ z := fun x => by subst x; rw [hz₂] at hoe; cases hoe; simp at hce
  refine wpAny_setField_rec hz₂ (by simp) fun h₃ _ hs₃ => ?_
  refine wpAny_bind (wpAny_isInstance (T := "StopIteration") (b := true) ⟨oe, hs₃.extBut _ _ hez hoe, hce⟩ isSubtype_stop ?_)
  exact wpAny_pure (hQ _ fun c o c1 c3 x => hs₃.extBut _ _ c1 (hs₂ _ _ c3 (hs₁.extBut _ _ c1 x)))
/-- list(z) -/
theorem zip0_list {Q : Value → Shared → Prop} (hh : A.handled = none) (n1 : i1 ≠ z) (hz : IsZip s.heap z TI TO .none) (hTI : IsPair s.heap TI (.ref i1) (.ref i2)) (h1 : IsRangeIter s.heap i1 x left step) (hl : left ≤ 0)
    (hQ : ∀ h' c, (∀ b o, b ≠ z → b ≠ i1 → s.heap.get? b = some o → h'.get? b = some o) → h'.get? s.heap.objs.size = some { cls := .type "list", dict := none, data := .seq #[] c, slots := #[] } → Q (.ref s.heap.objs.size) { s with heap := h' }) :
    wpAny (model prog w) A (call (.type "list") [.ref z]) Q E s := by
  refine callType_codes (Q₁ := fun obj s₁ => obj = .ref s.heap.objs.size ∧ s₁ = { s with heap := s.heap.push { cls := .type "list", data := .seq #[] } }) PySem.F.called_list (PySem.F.typeCall_list_1 _) PySem.F.entry_list_init
    (code_list_new _ ⟨rfl, rfl⟩) fun obj s₁ h₁ => ?_
  obtain ⟨rfl, rfl⟩ := h₁
  have hS : (s.heap.push { cls := .type "list", data := .seq #[] }).get? s.heap.objs.size = some { cls := .type "list", data := .seq #[] } := Heap.get?_push_size _ rfl
  have ne : ∀ {b o}, s.heap.get? b = some o → b ≠ s.heap.objs.size := fun e => Nat.ne_of_lt (Heap.lt_size e)
  have nz := ne hz
  have nTI := ne hTI
  have m1 := ne h1
  refine ⟨⟨_, hS, rfl⟩, PySem.F.args_list_init_2 _ _, ?_⟩
  generalize hSa : s.heap.objs.size = S at hS hQ nz nTI m1
  have up : ∀ {b o}, s.heap.get? b = some o → (s.heap.push { cls := .type "list", data := .seq #[] }).get? b = some o := fun e => Heap.get?_push_of_some _ e
  generalize s.heap.push { cls := .type "list", data := .seq #[] } = G at hS up ⊢
  show wpAny _ _ (do let old ← Builtin.List.listItems (.ref S); Builtin.List.listUpdate (.ref S) (fun _ => #[]); letGo old.toList.reverse; Builtin.List.listExtendWith (.ref S) (.ref z) .none) _ _ _
  refine wpAny_bind ?_
  unfold Builtin.List.listItems
  refine wpAny_bind (wpAny_seqItems hS rfl (wpAny_pure ?_))
  show wpAny _ _ (updateSeq S (fun _ => #[]) >>= fun _ => letGo (#[] : Array Value).toList.reverse >>= fun _ => Builtin.List.listExtendWith (.ref S) (.ref z) .none) _ _ _
  refine wpAny_bind (wpAny_updateSeq hS rfl ?_)
  have hS₂ := Heap.get?_update_self (Obj.mapSeq (fun _ => (#[] : Array Value))) hS rfl
  have oth : ∀ b o, b ≠ S → s.heap.get? b = some o → (G.update S (Obj.mapSeq (fun _ => (#[] : Array Value)))).get? b = some o :=
    fun b o hb e => (Heap.get?_update_other _ _ (Ne.symm hb)).trans (up e)
  refine wpAny_bind (wpAny_letGo ?_)
  generalize G.update S (Obj.mapSeq (fun _ => (#[] : Array Value))) = G2 at hS₂ oth ⊢
  have hz2 := oth _ _ nz hz
  have hT : ({ s with heap := G2 } : Shared).TypeIs (.ref z) "zip" := ⟨_, hz2, rfl⟩
  unfold Builtin.List.listExtendWith
  refine wpAny_bind (wpAny_typeOf (T := "zip") hT ?_)
  have e1 : Builtin.List.listSameRef (.ref S) (.ref z) = false := by simp [Builtin.List.listSameRef, nz.symm]
  have e2 : (Value.type "zip" == Value.type "list") = false := by decide
  have e3 : (Value.type "zip" == Value.type "tuple") = false := by decide
  simp only [e1, e2, e3, Bool.or_false, Bool.false_eq_true, if_false]
  refine wpAny_bind (wpAny_pyIter_zip (s := { s with heap := G2 }) hz2 ?_)
  refine wpAny_bind (wpAny_holding (hint_zip hT ?_))
  have key : ∀ (h : Heap) (c : Nat) (R : Result → Shared → Prop), (∀ b o, b ≠ S → s.heap.get? b = some o → h.get? b = some o) → h.get? S = some { cls := .type "list", dict := none, data := .seq #[] c, slots := #[] } →
      (∀ s', Q (.ref S) s' → R (.ok (.ret .none)) s') → codeAny (model prog w) A.in1 (.builtin "list.extend.loop" ⟨[.ref S, .ref z, .none], []⟩) R { s with heap := h } := by
    intro h c R hk hS' hR
    refine codeAny_builtin PySem.F.entry_extend_loop ?_
    rw [Around.under_plainId PySem.F.plain_extend_loop _]
    show wpAny _ A.in1.in1 (pyNext (.ref z) >>= _) _ _ _
    refine wpAny_bind (zip0_next (s := { s with heap := h }) (A := A.in1.in1) hh n1 (hk _ _ nz hz) (hk _ _ nTI hTI) (hk _ _ m1 h1) hl fun h' he => ?_)
    exact wpAny_pure (hR _ (hQ h' c (fun b o b1 b2 e => he b o b1 b2 (hk b o (by rw [← hSa]; exact ne e) e)) (he S _ nz.symm m1.symm hS')))
  refine wpAny_ite_split (fun _ => ?_) (fun _ => wpAny_pure ⟨plainId_quiet PySem.F.plain_extend_loop _, key _ _ _ oth hS₂ fun s' q => ⟨rfl, q⟩⟩)
  refine wpAny_bind (wpAny_rule ?_)
  refine wpAny_bind ?_
  show wpAny _ _ (updateSeq S (·.push .none) >>= fun _ => updateSeq S (·.pop)) _ _ _
  refine wpAny_bind (wpAny_updateSeq hS₂ rfl ?_)
  have hS₃ := Heap.get?_update_self (Obj.mapSeq (·.push Value.none)) hS₂ rfl
  refine wpAny_updateSeq (hz := by seq_fits) hS₃ rfl ?_
  have hS₄ := Heap.get?_update_self (Obj.mapSeq (·.pop)) hS₃ rfl
  refine wpAny_pure ⟨plainId_quiet PySem.F.plain_extend_loop _, key _ _ _ (fun b o hb e => ?_) hS₄ fun s' q => ⟨rfl, q⟩⟩
  exact (Heap.get?_update_other _ _ (Ne.symm hb)).trans ((Heap.get?_update_other _ _ (Ne.symm hb)).trans (oth b o hb e))
theorem sub_zip2 : isSubtype (.type "zip") (.type "zip") = pure true := sub_zip
abbrev z0I (h : Heap) (N : Int) : Heap := h.push { cls := .type "range_iterator", data := .fields #[rawInt 0, rawInt N, rawInt 1] }
abbrev z0T (h : Heap) (N : Int) (g : Addr) : Heap := (z0I h N).push { cls := .type "tuple", data := .seq #[.ref h.objs.size, .ref g] }
abbrev z0O (h : Heap) (N : Int) (g : Addr) : Heap := (z0T h N g).push { cls := .type "tuple", data := .seq #[.none, .none] }
abbrev z0Z (h : Heap) (N : Int) (g : Addr) : Heap := (z0O h N g).push { cls := .type "zip", data := .fields #[.none, .bool false, .bool false, .ref (z0I h N).objs.size, .ref (z0T h N g).objs.size] }
theorem meets_zip_new0 (r g : Addr) (n : Nat) (t u v : Tok) :
    Meets (Builtin.«zip.__new__» ⟨[.type "zip", .ref r, .ref g], []⟩) (fun _ R s => (IsRange s.heap r 0 0 1 t u v ∧ s.heap.IsGen g n) ∧
      R (.ok (.ret (.ref (z0O s.heap 0 g).objs.size))) { s with heap := z0Z s.heap 0 g }) :=
  .of_wp fun prog w A R s h => by
    obtain ⟨hp, gs, d, tk, os⟩ := s; obtain ⟨⟨h1, h2⟩, h⟩ := h
    have hsub := sub_zip
    have q1 : ∀ {A' : Around} {E : Value → Shared → Prop} {Q : Value → Shared → Prop}, Q (.ref hp.objs.size) ⟨z0I hp 0, gs, d, tk, os⟩ → wpAny (model prog w) A' (pyIter (.ref r)) Q E ⟨hp, gs, d, tk, os⟩ :=
      fun q => wpAny_pyIter_range (s := ⟨hp, gs, d, tk, os⟩) h1 (by decide) q
    have q2 : ∀ {A' : Around} {E : Value → Shared → Prop} {Q : Value → Shared → Prop}, Q (.ref g) ⟨z0I hp 0, gs, d, tk, os⟩ → wpAny (model prog w) A' (pyIter (.ref g)) Q E ⟨z0I hp 0, gs, d, tk, os⟩ :=
      fun q => wpAny_pyIter_gen (s := ⟨z0I hp 0, gs, d, tk, os⟩) (h2.keeps fun b o e => Heap.get?_push_of_some _ e) q
    wp_walk using q1, q2
    exact ⟨_, rfl, h⟩
theorem zip0_new {r g : Addr} {n : Nat} {t u v : Tok} {Q : Value → Shared → Prop} (h1 : IsRange s.heap r 0 0 1 t u v) (h2 : s.heap.IsGen g n)
    (h : ∀ h', IsZip h' (s.heap.objs.size + 3) (s.heap.objs.size + 1) (s.heap.objs.size + 2) .none → IsPair h' (s.heap.objs.size + 1) (.ref s.heap.objs.size) (.ref g) → IsRangeIter h' s.heap.objs.size 0 0 1 → h'.objs.size = s.heap.objs.size + 4 →
      (∀ c o, s.heap.get? c = some o → h'.get? c = some o) → Q (.ref (s.heap.objs.size + 3)) { s with heap := h' }) :
    wpAny (model prog w) A (call (.type "zip") [.ref r, .ref g]) Q E s := by
  refine callType_new F.called_zip (by decide) (F.typeCall_zip_2 _ _) (F.newCall_zip_2 _ _) (fun obj => F.args_object_init_3 obj _ _) F.entry_zip_new
    (meets_zip_new0 r g n t u v) ⟨⟨h1, h2⟩, ?_⟩
  have z1 : (z0I s.heap 0).objs.size = s.heap.objs.size + 1 := by rw [Heap.size_push]
  have zT : (z0T s.heap 0 g).objs.size = s.heap.objs.size + 2 := by rw [Heap.size_push, z1]
  have zO : (z0O s.heap 0 g).objs.size = s.heap.objs.size + 3 := by rw [Heap.size_push, zT]
  have zZ : (z0Z s.heap 0 g).objs.size = s.heap.objs.size + 4 := by rw [Heap.size_push, zO]
  have gZ : (z0Z s.heap 0 g).get? (z0O s.heap 0 g).objs.size = some { cls := .type "zip", data := .fields #[.none, .bool false, .bool false, .ref (z0I s.heap 0).objs.size, .ref (z0T s.heap 0 g).objs.size] } := Heap.get?_push_size _ rfl
  have gT : (z0Z s.heap 0 g).get? (z0I s.heap 0).objs.size = some { cls := .type "tuple", data := .seq #[.ref s.heap.objs.size, .ref g] } := Heap.get?_push_of_some _ (Heap.get?_push_of_some _ (Heap.get?_push_size _ rfl))
  have g1 : (z0Z s.heap 0 g).get? s.heap.objs.size = some { cls := .type "range_iterator", data := .fields #[rawInt 0, rawInt 0, rawInt 1] } := Heap.get?_push_of_some _ (Heap.get?_push_of_some _ (Heap.get?_push_of_some _ (Heap.get?_push_size _ rfl)))
  rw [zO, zT, z1] at gZ
  rw [z1] at gT
  show _ ∧ _
  rw [zO]
  exact ⟨⟨_, gZ, rfl⟩, h _ gZ gT g1 zZ fun c o e => Heap.get?_push_of_some _ (Heap.get?_push_of_some _ (Heap.get?_push_of_some _ (Heap.get?_push_of_some _ e)))⟩
end
end Kx
namespace Kx
open PySem PySem.Spec PyProof.Rows L2
def tZ0 (sp : SpG) (t : TA) : TE := fun σ H Q => ∀ p, H p = none → t σ (upd H p (.rng 0 0)) fun vs H1 => H1 p = some (.rng 0 0) ∧ sp vs H1 (fun _ _ => True) (fun _ _ _ => True) ∧ ∀ p2, H1 p2 = none → Q (.ref p2) (upd H1 p2 (.lst []))
theorem pe_zip0 {X : Cx} {k j : Nat} {f : Addr} {fd : FuncData} {ps : List Str} {sp : SpG} {x : Str} {e : Expr} {es : List Expr} {t : TA} {p1 p2 p3 p4 p5 p6 p7 p8 p9 : Pos} (F : GFn X.prog X.w X.K X.mg X.base k f fd ps sp) (hr : Room k X.A) (hc : X.calm = true)
    (hg1 : Gl X "list") (hm1 : X.mg "list" = none) (hg2 : Gl X "zip") (hm2 : X.mg "zip" = none) (hg3 : Gl X "range") (hm3 : X.mg "range" = none) (hgf : Gl X x) (hmf : X.mg x = some (.ref f)) (hk : PySem.W.keepIn X.K (.ref f) = true) (hb : Binds X.K fd ps []) (ha : PA X (e :: es) t)
    (hdb : (x == ("__debug__" : Str)) = false := by decide) (he : starEach (e :: es) X.env = (false, eval e X.env) :: starEach es X.env := by rfl) (hpl : (backTo p7 (starEach es X.env)).any (·.1) = false := by rfl) :
    PE X (.Call (.Name "list" p1) [.Call (.Name "zip" p2) [.Call (.Name "range" p3) [.Constant (.int 0) j p4] [] p5, .Call (.Name x p6) (e :: es) [] p7] [] p8] [] p9) (tZ0 sp t) := by
  refine ⟨fun pins s σ H Q I h => ?_⟩
  refine Call_ (ld_blt I hg1 hm1 boot_list (PyProof.Rows.callWith_type1 (args_cons ?_ rfl) rfl))
  refine Call_ (ld_blt I hg2 hm2 PyProof.Rows.boot_zip (PyProof.Rows.callWith_type1 (args_cons ?_ rfl) rfl rfl))
  refine Call_ (ld_blt I hg3 hm3 boot_range (PyProof.Rows.callWith_type1 (args_cons (thn (pe_int.run pins s σ H (fun v H1 => v = .int 0 ∧ H1 = H) I ⟨rfl, rfl⟩) fun u s1 ⟨v, H1, I1, r1, e1, e2⟩ => ?_) rfl) rfl))
  subst e1 e2
  obtain ⟨t0, rfl⟩ := r1
  refine args_nil (call_range_1 ?_)
  have np : H1 s1.heap.objs.size = none := I1.hok.fresh (Nat.le_refl _)
  have I2 := I1.laid (a := s1.heap.objs.size) (o := .rng 0 0) (t' := s1.toks + 1 + 1) (h' := s1.heap.push { cls := .type "range", data := .fields #[.int 0 s1.toks, .int 0 t0, .int 1 (s1.toks + 1)] }) (fun b u e => Heap.get?_push_of_some _ e) (Nat.le_refl _) ⟨s1.toks, t0, s1.toks + 1, Heap.get?_push_size _ rfl⟩
  refine args_cons (wpAny_Call_Name_kw (ld_glob I2 hgf hmf ?_ hdb)) rfl
  refine PySem.W.callWith_K (h₀ := X.base) I2.ok.mod.kin hk (thn (ha.run p7 pins _ σ _ _ I2 (h _ np)) fun us s3 ⟨vs, H3, I3, r, hrg, hsp, q⟩ => ⟨I3.kIn, ?_⟩) he hpl
  have hl : us.length = ps.length := by rw [← r.length]; exact F.len _ _ _ _ hsp
  have hb' := hb s3 us I3.kIn (by rw [List.append_nil]; exact hl)
  rw [List.append_nil] at hb'
  refine wpAny_call (codeAny_mono (F.run X.A X.stack s3 H3 ⟨us, []⟩ us vs _ _ hr I3.env0 hb' r hsp) fun r s4 hq => ?_)
  cases r with
  | error e => exact hq.elim
  | ok fl =>
    cases fl with
    | next => exact hq.elim
    | brk => exact hq.elim
    | cont => exact hq.elim
    | ret u =>
      obtain ⟨a, g, c, rfl, ha1, ha2, hgn, hgs, hos, hbare, hlim, hkp, _⟩ := hq
      have I4 : Inv X pins σ H3 s4 := I3.call' (ch := []) hos (Un.kept hkp) (I3.hok.kept hkp) hbare (fun b z => by simp at z)
      obtain ⟨ta, tb, tc, hr4⟩ := I4.hok _ _ hrg
      refine args_nil (zip0_new (s := s4) hr4 hgn fun h' hz hTI h1 hsz hk2 => ?_)
      refine args_nil (zip0_list (s := { s4 with heap := h' }) (I4.ok.hd hc) (Nat.ne_of_lt (Nat.lt_add_of_pos_right (by decide))) hz hTI h1 (Int.le_refl 0) fun h2 c hk3 hS => ?_)
      have big : s4.heap.objs.size ≤ h'.objs.size := by omega
      refine ⟨.ref h'.objs.size, upd H3 h'.objs.size (.lst []), I4.laid (t' := s4.toks) (h' := h2) (fun b o e => ?_) big ⟨Nat.zero_le _, [], c, .nil, hS⟩, rfl, q _ (I4.hok.fresh big)⟩
      have lt := Heap.lt_size e
      exact hk3 b o (Nat.ne_of_lt (Nat.lt_of_lt_of_le lt (Nat.le_add_right _ _))) (Nat.ne_of_lt lt) (hk2 b o e)
end Kx
/-! The law of k05: terms asked. -/
namespace Kx
open PySem PySem.Spec PyProof.Rows L2 LamX
theorem lamS_blk {X : Cx} {s : Shared} {H : Hp} {scope ls : Scope} {cl : List (Str × Addr)} {C : Addr} {fp : List Addr} (sc : Scope) (hsc : X.env.scope = sc) (h : lamSB (relS scope sc) ls = true) : LamS (X.blk s H scope (compEnvC scope cl C X.env) fp).env.scope ls := by
  subst hsc
  exact lamS_by h
end Kx
namespace K05
open PySem PySem.Spec PyProof.Rows L2 Kx LamX
theorem pe_raisedB {X : Cx} (T : Tx X.K X.mg) (Y : Kinds T) {s0 : Shared} {H0 : Hp} {sc0 : Scope} {cl0 : List (Str × Addr)} {C0 : Addr} {fp0 : List Addr} {c P : Addr} {tabs : List (Addr × Str)} {params : Arguments} {body : Expr} {scope : Scope} {t : XK → TE} {k : Nat} {p lpos pos : Pos} (hg : Gl (X.blk s0 H0 sc0 (compEnvC sc0 cl0 C0 X.env) fp0) "_law_raised")
    (TB : TabB X.base X.mg c P) (hcode : X.env.code = .ref c) (hmT : (P, X.env.qual ++ "<lambda>") ∈ tabs) (hu : ∀ p ∈ tabs, p.1 = P → p.2 = X.env.qual ++ "<lambda>") (hr : Room (k + 2) X.A) (L : LamS (X.blk s0 H0 sc0 (compEnvC sc0 cl0 C0 X.env) fp0).env.scope scope) (hdef : defaultsOf params (X.blk s0 H0 sc0 (compEnvC sc0 cl0 C0 X.env) fp0).env = ([], []))
    (hbind : ∀ (q : Str) (cl : List (Str × Addr)) (pm cv ctv : Value), bindArgs (PySem.W.kla_fn "<lambda>" q params body scope cl pm cv ctv) ⟨[], []⟩ = pure [])
    (hbody : ∀ (A : Around) (outer : List Env) (s : Shared) (H : Hp) (E : XK) (f c' : Addr), Room k (A.deeper (lamEnv (X.blk s0 H0 sc0 (compEnvC sc0 cl0 C0 X.env) fp0) scope s.heap.objs.size f c')) → PE (lamCx (X.blk s0 H0 sc0 (compEnvC sc0 cl0 C0 X.env) fp0) A outer s H E scope f c') body (t E)) :
    PE (X.blk s0 H0 sc0 (compEnvC sc0 cl0 C0 X.env) fp0) (.Call (.Name "_law_raised" p) [.Lambda params body scope lpos] [] pos) (tLam tabs (TRaised T) t) :=
  pe_raised (X := X.blk s0 H0 sc0 (compEnvC sc0 cl0 C0 X.env) fp0) T Y hg TB hcode hmT hu hr L hdef hbind hbody
def EStop (K : PySem.W.Frag) (E : XK) : XK := fun c d H => E c d H ∧ PySem.W.subIn K c (.type "StopIteration") = some false
section
variable {P : Program} {w : World} {K : PySem.W.Frag} {mg : Str → Option Value} {base : Heap}
def SA (T : Tx K mg) (f : Addr) : Prop := f = T.aplaces_of ∨ f = T.alevels ∨ f = T.asize_of ∨ f = T.atext_of
theorem held_A (T : Tx K mg) : ∀ f, SA T f → HeldX P w K mg base 6 f (spBad K T.CInvalidTerm) := by
  rintro f (rfl | rfl | rfl | rfl)
  · exact ⟨_, _, ok_places T, T.fplaces_of.kp, T.nplaces_of⟩
  · exact ⟨_, _, ok_levels T, T.flevels.kp, T.nlevels⟩
  · exact ⟨_, _, ok_size T, T.fsize_of.kp, T.nsize_of⟩
  · exact ⟨_, _, ok_text T, T.ftext_of.kp, T.ntext_of⟩
theorem dz_odd {H : Hp} {x : V} {d : PyData} (h : Dx K H x d) (o : OddD d) : Dz K H x d := ⟨h, o.short, Nat.le_trans o.sz (by decide)⟩
theorem dz_term {H : Hp} {x : V} {d : PyData} (h : Dx K H x d) (o : TermD d) : Dz K H x d := ⟨h, o.short, Nat.le_trans o.sz (by decide)⟩
def spAr (K : PySem.W.Frag) (tabs : List (Addr × Str)) : Sp := fun vs H Q _ => ∃ (a : Addr) (n : Nat) (x : V) (d : PyData), vs = [.ref a, x] ∧ Dice H a n ∧ n + 1 < cap ∧ Dx K H x d ∧ TermD d ∧ Tabs tabs H ∧
  ∀ H', Bt a H H' → Dice H' a (n + 1) → Tabs tabs H' → Q (.bl true) H'
theorem ok_ar (T : Tx K mg) (Y : Ty T) (sT : PySem.W.subIn K (.ref T.CInvalidTerm) (.type "StopIteration") = some false) (TB : TabB base mg Y.cA Y.PA) : FnOk P w K mg base CX0 12 T.a_law_asked_right T.d_law_asked_right ["dice", "term"] (spAr K Y.tb) := by
  have nd := sc__law_asked_right.nd
  have Go := ok_odd (P := P) (w := w) (base := base) T
  have Gst := ok_stands (P := P) (w := w) (base := base) T
  have Gs := ok_subs (P := P) (w := w) (base := base) T
  have HX := held_A (P := P) (w := w) (base := base) T
  refine okC T.f_law_asked_right sc__law_asked_right (fun vs H Q E h => ?_) (fun cdv A outer s H vs Q E ecd hr h => ?_)
  · obtain ⟨a, n, x, d, rfl, _⟩ := h
    rfl
  · obtain ⟨a, n, x, d, rfl, hd, hn, dx, tm, tt, q⟩ := h
    have ec : cdv = .ref Y.cA := by rw [← ecd, Y.codeA]
    refine ⟨_, (pss_cons (ps_set (i := 3) nd rfl (.inr rfl) (pe_call Go (hr.mono (by omega)) (by rfl) T.g_law_odd T.f_law_odd.kp T.n_law_odd .nil pass0 (pa_cons (pv 0) pa_nil)))
      (pss_cons (ps_setLc (i := 2) (own := [("asked", 4)]) (g := (gName 4)) (tt := tYes) (te := tLam Y.tb (TRaised T) (fun E => tCallX 4 (SA T) (spBad K T.CInvalidTerm) E (tCons (tVar 3) tNil))) (by rfl) nd rfl rfl (sw_true rfl rfl rfl (by decide +kernel)) (pi_tup (pe_tup (pa_cons (pe_glob (v := .ref T.aplaces_of) (by rfl) T.gplaces_of rfl) (pa_cons (pe_glob (v := .ref T.alevels) (by rfl) T.glevels rfl) (pa_cons (pe_glob (v := .ref T.asize_of) (by rfl) T.gsize_of rfl) (pa_cons (pe_glob (v := .ref T.atext_of) (by rfl) T.gtext_of rfl) pa_nil)))))) (blkOk_by (own := [("asked", 4)]) (N := N__law_asked_right) (sc := defScope s__law_asked_right) (by decide +kernel)) (fun _ _ _ _ _ => pg_name (i := 4) nd rfl (.inr rfl)) (fun _ _ _ _ _ => pts_nil) (fun _ _ _ _ _ => (pe_raisedB (X := (cxOf CX0 P w K mg base N__law_asked_right "_law_asked_right" (defScope s__law_asked_right) T.a_law_asked_right cdv A outer s H E).nox) T Y.kn (k := 9) (by rfl) TB ec Y.hA.1 Y.hA.2 (hr.mono (by omega)) (lamS_blk (defScope s__law_asked_right) rfl (by decide +kernel)) rfl (fun _ _ _ _ _ => rfl) (fun A2 outer2 s2 H2 E2 f2 c2 hr2 => (pe_callX (i := 4) HX (hr2.mono (by omega)) rfl (.inr (.inr rfl)) (passes_call (takes_of rfl rfl rfl rfl) (fun _ _ _ _ h => h)) (pa_cons (pv 3) pa_nil))))))
      (pss_cons (ps_expr (pe_bm PySem.F.plainAttrs_list PySem.F.slot_list_append PySem.F.type_list_append mt_append (pv 2) (pa_cons (pe_raised T Y.kn (k := 9) (by rfl) TB ec Y.hA.1 Y.hA.2 (hr.mono (by omega)) (lamS_by (sc := defScope s__law_asked_right) (by decide +kernel)) rfl (fun _ _ _ _ _ => rfl) (fun A2 outer2 s2 H2 E2 f2 c2 hr2 => (pe_listG (E := EStop K E2) (pgen_call (E := EStop K E2) Gs (hr2.mono (by omega)) (by rfl) T.gsubterms T.fsubterms.kp T.nsubterms .nil (pa_cons (pv 3) pa_nil)) (passes_call (takes_of rfl rfl rfl rfl) (fun _ _ _ _ h => h.1)) (fun _ _ _ h => h.2) (hr2.mono (by omega)) (by rfl) T.b_list (by decide +kernel)))) pa_nil)))
      (pss_cons (ps_if (pt_cmpR op_ne (pe_raised T Y.kn (k := 9) (by rfl) TB ec Y.hA.1 Y.hA.2 (hr.mono (by omega)) (lamS_by (sc := defScope s__law_asked_right) (by decide +kernel)) rfl (fun _ _ _ _ _ => rfl) (fun A2 outer2 s2 H2 E2 f2 c2 hr2 => (pe_zip0 Gs (hr2.mono (by omega)) rfl (by rfl) T.b_list (by rfl) T.b_zip (by rfl) T.b_range (by rfl) T.gsubterms T.fsubterms.kp T.nsubterms (pa_cons (pv 3) pa_nil)))) pe_str (nomark _)) (pss_one (ps_ret pe_bl)) pss_nil)
      (pss_cons (ps_expr (pe_bm PySem.F.plainAttrs_list PySem.F.slot_list_append PySem.F.type_list_append mt_append (pv 2) (pa_cons (pe_raised T Y.kn (k := 9) (by rfl) TB ec Y.hA.1 Y.hA.2 (hr.mono (by omega)) (lamS_by (sc := defScope s__law_asked_right) (by decide +kernel)) rfl (fun _ _ _ _ _ => rfl) (fun A2 outer2 s2 H2 E2 f2 c2 hr2 => (pe_call Gst (hr2.mono (by omega)) (by rfl) T.gstands_in T.fstands_in.kp T.nstands_in .nil (passes_call (takes_of rfl rfl rfl rfl) (fun _ _ _ _ h => h)) (pa_cons (pv 3) (pa_cons (pv 1) pa_nil))))) pa_nil)))
      (pss_cons (ps_expr (pe_bm PySem.F.plainAttrs_list PySem.F.slot_list_append PySem.F.type_list_append mt_append (pv 2) (pa_cons (pe_raised T Y.kn (k := 9) (by rfl) TB ec Y.hA.1 Y.hA.2 (hr.mono (by omega)) (lamS_by (sc := defScope s__law_asked_right) (by decide +kernel)) rfl (fun _ _ _ _ _ => rfl) (fun A2 outer2 s2 H2 E2 f2 c2 hr2 => (pe_call Gst (hr2.mono (by omega)) (by rfl) T.gstands_in T.fstands_in.kp T.nstands_in .nil (passes_call (takes_of rfl rfl rfl rfl) (fun _ _ _ _ h => h)) (pa_cons (pv 1) (pa_cons (pv 3) pa_nil))))) pa_nil)))
      (pss_one (ps_ret (pe_cmpR (op_eqF (room200 hr)) (pv 2) (pe_op op_rep (pe_lst (pa_cons pe_str pa_nil)) pe_int) (nomark _)))))))))), ?_⟩
    refine ⟨_, rfl, a, n, [a], rfl, hd, by omega, List.mem_singleton_self _, off_one hd, fun xo do' H1 bt1 d1 dxo mo => ?_⟩
    have so := odds_odd _ mo
    have b1 : Bt a H H1 := .but bt1
    have dxo1 := offs_all dxo
    have dx1 := b1.dx hd (termD_formed tm.td) dx
    have t1 := tabs_but tt bt1 hd
    -- the four
    refine ⟨by show 4 ≤ sizeLine; decide, fun p np => ?_⟩
    have s2 := same_put (o := .tup [.ref T.aplaces_of, .ref T.alevels, .ref T.asize_of, .ref T.atext_of]) np
    have ep : (upd H1 p (.tup [.ref T.aplaces_of, .ref T.alevels, .ref T.asize_of, .ref T.atext_of])) p = some (.tup [.ref T.aplaces_of, .ref T.alevels, .ref T.asize_of, .ref T.atext_of]) := upd_same
    have dxo2 := dxo1.up s2
    have dx2 := dx1.up s2
    have t2 := t1.ext s2
    have b2 := b1.trans (.same s2)
    have d2 := d1.up s2
    generalize upd H1 p (.tup [.ref T.aplaces_of, .ref T.alevels, .ref T.asize_of, .ref T.atext_of]) = H2 at s2 ep dxo2 dx2 t2 b2 d2 ⊢
    clear s2 np dxo dxo1 dx1 t1 b1 d1 bt1
    refine ⟨p, rfl, ⟨_, SqT.of ep⟩, fun D nD => ?_⟩
    refine lc_tup (K := K) (a := p) (xs := [.ref T.aplaces_of, .ref T.alevels, .ref T.asize_of, .ref T.atext_of]) (fun i H' => ExtN H2 H' ∧ Tabs Y.tb H' ∧ H' D = some (.lst ((List.replicate i ("term" : Str)).map V.str)))
      ⟨ext_sm (same_put nD), t2.ext (same_put nD), upd_same⟩ (fun i H' _ h => SqT.of (h.1 _ _ ep (fun ps z => nomatch z))) ?_ ?_
    · rintro i v H' hi ⟨e1, t1, eD⟩
      obtain ⟨f, rfl, sa⟩ : ∃ f, v = .ref f ∧ SA T f := by
        have m := List.mem_of_getElem? hi
        simp only [List.mem_cons, List.not_mem_nil, or_false] at m
        rcases m with rfl | rfl | rfl | rfl
        · exact ⟨_, rfl, .inl rfl⟩
        · exact ⟨_, rfl, .inr (.inl rfl)⟩
        · exact ⟨_, rfl, .inr (.inr (.inl rfl))⟩
        · exact ⟨_, rfl, .inr (.inr (.inr rfl))⟩
      have lt : i < 4 := (List.getElem?_eq_some_iff.mp hi).1
      refine ⟨rfl, (iteT (B := False) ?_ : if true = true then _ else False)⟩
      refine (says_lam (H0 := H2) (σ := [some (.ref a), some x, none, some xo, some (.ref f)]) wdT fun H E Q e q => ⟨f, rfl, sa, _, rfl, _, _, rfl, dz_odd (dxo2.ext e) so, so.noT, q⟩) H' _ e1 t1 fun H'' e2 t3 => ?_
      have eD2 := e2 _ _ eD (fun ps z => nomatch z)
      refine ⟨_, eD2, ?_, ?_, tabs_put t3 eD2, ?_⟩
      · rw [List.length_map, List.length_replicate]
        exact small1000 (by omega)
      · intro b o hb n
        have ne : b ≠ D := fun z => by
          rw [z] at hb
          rw [hb] at nD
          cases nD
        rw [upd_ne ne]
        exact e2 b o (e1 b o hb n) n
      · rw [upd_same, List.replicate_succ', List.map_append]
        rfl
    · rintro H3 ⟨e3, t3, eD⟩
      have L3 : Lst Y.tb H2 D ["term", "term", "term", "term"] H3 := ⟨(fun o z => by rw [z] at nD; cases nD), e3, t3, eD⟩
      refine app_says rfl L3 (says_lam wdT fun H E Q e q => ⟨_, rfl, _, _, rfl, dz_odd (dxo2.ext e) so, so.noT, fun H' s => ⟨q H' s, sT⟩⟩) (by decide) fun H4 L4 => ?_
      refine (says_ret (H0 := H2) (σ := [some (.ref a), some x, some (.ref D), some xo, none]) fun H E Q e q => ?_) H4 _ L4.ext L4.tabs fun H5 e5 t5 => ⟨rfl, _, rfl, iteNS rfl ?_⟩
      · exact fun p np => ⟨_, rfl, upd_same, ⟨_, _, rfl, dz_odd ((dxo2.ext e).up (same_put np)) so, so.noT, fun _ _ => trivial⟩, fun p2 np2 => q _ _ ((same_put np).trans (same_put np2))⟩
      have L5 : Lst Y.tb H2 D _ H5 := ⟨L4.new, L4.ext.trans e5, t5, e5 _ _ L4.at_ (fun ps z => nomatch z)⟩
      refine app_says rfl L5 (says_lam wdT fun H E Q e q => ⟨_, rfl, _, rfl, _, _, _, _, rfl, dz_odd (dxo2.ext e) so, dz_term (dx2.ext e) tm, by rw [so.noT]; rfl, q⟩) (by decide) fun H6 L6 => ?_
      refine app_says rfl L6 (says_lam wdT fun H E Q e q => ⟨_, rfl, _, rfl, _, _, _, _, rfl, dz_term (dx2.ext e) tm, dz_odd (dxo2.ext e) so, by rw [so.noT, Bool.and_false], q⟩) (by decide) fun H7 L7 => ?_
      refine eq_says (ws := ["term", "term", "term", "term", "term", "term", "term"]) rfl L7 (mkw_rep "term" 7 (by decide)) (by decide +kernel) fun H8 s8 => ?_
      exact q H8 ((bt_lst b2 L7).trans (.same s8)) ((dice_ext d2 L7.ext).up s8) (L7.tabs.ext s8)
end
end K05
/-! Measures of terms; slices and sums of tuples as data. -/
namespace K05
open PySem PySem.Spec PyProof.Rows L2 Kx
theorem nm_ok {x : Str} (h : isNm x = true) : PyData.strOk x = true ∧ (reprText x).length ≤ 82 ∧ x.length ≤ 8 := by
  simp only [isNm, Bool.and_eq_true, decide_eq_true_eq] at h
  obtain ⟨⟨_, h8⟩, hl⟩ := h
  have each : ∀ c, c ∈ x.cps.toList → c ≤ 122 := fun c hc => by
    have := (Array.all_eq_true'.mp hl) c (Array.mem_toList_iff.mp hc)
    simp only [letter, Bool.and_eq_true, decide_eq_true_eq] at this
    exact this.2
  have r := StrLaws.reprText_len x (fun c hc => Nat.lt_of_le_of_lt (each c hc) (by decide))
  refine ⟨Array.all_eq_true'.mpr fun c hc => ?_, by omega, h8⟩
  have := each c (Array.mem_toList_iff.mpr hc)
  exact decide_eq_true (by omega)
def nd' : Nat → Nat
  | 0 => 0
  | n + 1 => 1 + 3 * nd' n
def sn : Nat → Nat
  | 0 => 0
  | n + 1 => 87 + 3 * (sn n + 2)
/-- what a formed datum is otherwise -/
structure Plain (d : PyData) : Prop where
  pure : pureD d = true
  short : shortD d = true
  sw : d.showable = true
  lay : d.canLay0 = true
  hd : d.hasDict = false
  nl : noL d = true
structure Plains (ds : List PyData) : Prop where
  pure : pureAll ds = true
  short : shortAll ds = true
  sw : PyData.showableAll ds = true
  lay : PyData.canLayAll0 ds = true
  hd : PyData.hasDictAll ds = false
  nl : noLs ds = true
theorem Plains.cons {d : PyData} {ds : List PyData} (h : Plain d) (t : Plains ds) : Plains (d :: ds) :=
  ⟨by simp [pureAll, h.pure, t.pure], by simp [shortAll, h.short, t.short], by simp [PyData.showableAll, h.sw, t.sw], by simp [PyData.canLayAll0, h.lay, t.lay], by simp [PyData.hasDictAll, h.hd, t.hd], by simp [noLs, h.nl, t.nl]⟩
theorem Plains.tup {ds : List PyData} (t : Plains ds) : Plain (.tuple ds) :=
  ⟨by simp [pureD, t.pure], by simp [shortD, t.short], by simp [PyData.showable, t.sw], by simp [PyData.canLay0, t.lay], by simp [PyData.hasDict, t.hd], by simp [noL, t.nl]⟩
theorem plain_name {d : PyData} (h : nameD d = true) : Plain d := by
  cases d with
  | str x =>
    have n := nm_ok (x := x) h
    exact ⟨rfl, by simp [shortD]; omega, rfl, by simp [PyData.canLay0, n.1], rfl, rfl⟩
  | _ => cases h
mutual
theorem plain_formed : ∀ d : PyData, formedD d = true → Plain d
  | .none, h => by cases h
  | .bool _, h => by cases h
  | .int _, h => by cases h
  | .str _, h => by cases h
  | .list _, h => by cases h
  | .dict _, h => by cases h
  | .tuple [], h => by cases h
  | .tuple (d :: ds), h => by
    simp only [formedD, Bool.and_eq_true] at h
    exact (Plains.cons (plain_name h.1.2) (plains_formed ds h.2)).tup
theorem plains_formed : ∀ ds : List PyData, formedAll ds = true → Plains ds
  | [], _ => ⟨rfl, rfl, rfl, rfl, rfl, rfl⟩
  | d :: ds, h => by
    simp only [formedAll, Bool.and_eq_true] at h
    exact Plains.cons (plain_formed d h.1) (plains_formed ds h.2)
end
theorem tup_len (ds : List PyData) : (PyData.tuple ds).shown.length ≤ piled (PyData.shownAll ds) + 3 := by
  simp only [PyData.shown]
  generalize PyData.shownAll ds = ts
  have last : ((if ts.length == 1 then ",)" else ")" : String) : Str).length ≤ 2 := by split <;> decide
  have all : (tupleText ts).length = 1 + (Str.join ", " ts).length + ((if ts.length == 1 then ",)" else ")" : String) : Str).length := by
    unfold tupleText
    rw [strLen_append, strLen_append]
    rfl
  rw [all]
  cases ts with
  | nil =>
    rw [show (Str.join ", " []).length = 0 from rfl]
    omega
  | cons t r =>
    have := join_length_add (t :: r) (by simp)
    omega
theorem lst_len (ds : List PyData) : (PyData.list ds).shown.length ≤ piled (PyData.shownAll ds) + 3 := by
  simp only [PyData.shown]
  generalize PyData.shownAll ds = ts
  have all : (listText ts).length = (textFrom 0 "[" ts).length + 1 := by
    unfold listText
    rw [strLen_append]
    rfl
  rw [all]
  cases ts with
  | nil =>
    rw [show (textFrom 0 "[" []).length = 1 from rfl]
    omega
  | cons t r =>
    have step : textFrom 0 "[" (t :: r) = textFrom 1 ("[" ++ (if (0 : Nat) > 0 then ", " else "" : String) ++ t) r := rfl
    rw [step, textFrom_length_pos r 1 _ Nat.one_pos, strLen_append, strLen_append, piled_cons, show (("[" : String) : Str).length = 1 from rfl]
    have : ((if (0 : Nat) > 0 then ", " else "" : String) : Str).length = 0 := rfl
    omega
mutual
theorem size_formed : ∀ (d : PyData) (n : Nat), formedD d = true → d.depth ≤ n → wD d ≤ nd' n ∧ d.shown.length ≤ sn n
  | .none, _, h, _ => by cases h
  | .bool _, _, h, _ => by cases h
  | .int _, _, h, _ => by cases h
  | .str _, _, h, _ => by cases h
  | .list _, _, h, _ => by cases h
  | .dict _, _, h, _ => by cases h
  | .tuple [], _, h, _ => by cases h
  | .tuple (d :: ds), 0, h, hd => by simp [PyData.depth] at hd
  | .tuple (d :: ds), n + 1, h, hd => by
    simp only [formedD, Bool.and_eq_true, decide_eq_true_eq] at h
    obtain ⟨⟨h3, hn⟩, hf⟩ := h
    have dd : PyData.depthAll ds ≤ n := by
      simp only [PyData.depth, PyData.depthAll] at hd
      omega
    obtain ⟨w1, w2⟩ := size_formedAll ds n hf dd
    have t1 := tup_len (d :: ds)
    have m1 := Nat.mul_le_mul_right (nd' n) h3
    have m2 := Nat.mul_le_mul_right (sn n + 2) h3
    cases d with
    | str x =>
      have nx := nm_ok (x := x) hn
      rw [PyData.shownAll, piled_cons] at t1
      simp only [PyData.shown] at t1 ⊢
      simp only [wD, wAll, nd', sn]
      omega
    | _ => cases hn
theorem size_formedAll : ∀ (ds : List PyData) (n : Nat), formedAll ds = true → PyData.depthAll ds ≤ n → wAll ds ≤ ds.length * nd' n ∧ piled (PyData.shownAll ds) ≤ ds.length * (sn n + 2)
  | [], n, _, _ => ⟨by simp [wAll], by simp [PyData.shownAll, piled]⟩
  | d :: ds, n, h, hd => by
    simp only [formedAll, Bool.and_eq_true] at h
    simp only [PyData.depthAll] at hd
    obtain ⟨a1, a2⟩ := size_formed d n h.1 (by omega)
    obtain ⟨b1, b2⟩ := size_formedAll ds n h.2 (by omega)
    rw [PyData.shownAll, piled_cons, wAll, List.length_cons, Nat.add_mul, Nat.add_mul, Nat.one_mul, Nat.one_mul]
    omega
end
end K05
/-! The law of k05: terms changed. -/
namespace Kx
open PySem PySem.Spec PyProof.Rows L2 LamX
/-- a def by its body, where nothing around shows itself, its code object told -/
theorem okGC {P : Program} {w : World} {K : PySem.W.Frag} {mg : Str → Option Value} {base : Heap} {x qual : Str} {st : Stmt} {f : Addr} {fd : FuncData} {N ps : List Str} {k : Nat} {sp : Sp} (F : Fun K x qual st f fd) (S : FnScope N ps (defScope st)) (len : ∀ vs H Q E, sp vs H Q E → vs.length = ps.length)
    (hbody : ∀ (cdv : Value) (A : Around) (outer : List Env) (s : Shared) (H : Hp) (vs : List V) (Q : VK) (E : XK), fd.code = cdv → Calm (A.deeper (envOfC qual (defScope st) s.heap.objs.size f cdv)) → Room k (A.deeper (envOfC qual (defScope st) s.heap.objs.size f cdv)) → sp vs H Q E →
      ∃ t, PSs (cxOf CX0 P w K mg base N qual (defScope st) f cdv A outer s H E).nox (defBody st) t ∧ t { nx := fun _ H' => Q .non H', rt := Q } (start N vs) H) : FnG P w K mg base (k + 1) f fd ps sp := by
  obtain ⟨oc, od, kV, doc, pm, an, cdv, ct, osl, rfl, lk, hcd⟩ := F.ex
  constructor
  · exact len
  intro A outer s H args us vs Q E cm hr e0 hb r hsp
  have nl := len _ _ _ _ hsp
  have kin : K.In s.heap := e0.mod.kin.keeps fun b o e => (e0.bs b o e).1
  have lim : s.heap.NoLimit := e0.mod.nolimit.keeps fun b o e => (e0.bs b o e).1
  refine codeAny_call_function hr.depth (kin _ _ lk) rfl S.co S.gen rfl (PySem.W.codeRec_of kin hcd) (hb _ _ _ _ (wpAny_newFunctionEnv_cells S.kind ?_ ?_))
  · rintro ⟨n, v⟩ hy
    rcases S.par n (List.of_mem_zip hy).1 with q | q
    · exact .inl q
    · exact .inr ⟨q, PySem.W.cellsFrom_some _ _ _ (.inl q)⟩
  rintro env rfl s1 x
  refine ⟨lim.keeps x.toInCall.keep, codeAny_func ?_⟩
  obtain ⟨t, ht, hq⟩ := hbody cdv A outer s H vs Q E rfl (calm_deeper cm) (hr.deeper _) hsp
  have J0 := inv_start (CX := CX0) (f := f) (cd := cdv) (E := E) (qual := qual) S hr.hd e0 nl r x
  refine wpAny_mono (ht.nox.run [] s1 _ H _ J0 hq) ?_ fun e s' hs => hs
  intro fl s' hs
  rcases fl with _ | _ | _ | u
  · obtain ⟨σ', H', J, q⟩ := hs
    exact ⟨.non, H', J.os, J.bare, J.base, J.hok, rfl, q⟩
  · obtain ⟨_, _, _, q⟩ := hs
    exact q.elim
  · obtain ⟨_, _, _, q⟩ := hs
    exact q.elim
  · obtain ⟨v, σ', H', J, rv, q⟩ := hs
    exact ⟨v, H', J.os, J.bare, J.base, J.hok, rv, q⟩
theorem Lst.grow {T : List (Addr × Str)} {H0 H H' : Hp} {l : Addr} {ws : List Str} (h : Lst T H0 l ws H) (s : Same H H') : Lst T H0 l ws H' := ⟨h.new, h.ext.trans (ext_sm s), h.tabs.ext s, s _ _ h.at_⟩
theorem Lst.rebase {T : List (Addr × Str)} {H0 H : Hp} {l : Addr} {ws : List Str} (h : Lst T H0 l ws H) : Lst T (OffS [l] H) l ws H :=
  ⟨fun o z => absurd (List.mem_singleton_self l) (OffS.of z).1, ext_sm OffS.all, h.tabs, h.at_⟩
end Kx
namespace K05
open PySem PySem.Spec PyProof.Rows L2 Kx LamX
theorem BadNm.ext {K : PySem.W.Frag} {H H' : Hp} {v : V} (h : BadNm K H v) (e : ExtN H H') : BadNm K H' v := by
  cases h with
  | dat a b => exact .dat (a.ext e) b
  | dic a b c d f => exact .dic (e _ _ a (fun ps z => nomatch z)) (fun x hx => ⟨(b x hx).1.ext (offs_ext e), (b x hx).2⟩) c d f
  | tup a => exact .tup (e _ _ a (fun ps z => nomatch z))
section
variable {P : Program} {w : World} {K : PySem.W.Frag} {mg : Str → Option Value} {base : Heap}
theorem repr_ok {d : PyData} (f : formedD d = true) (dp : d.depth ≤ 3) : d.showable = true ∧ (d.hasDict = true → noL d = true) ∧ d.depth ≤ 60 ∧ d.shown.length + 64 ≤ sizeLine := by
  have p := plain_formed d f
  have s := (size_formed d 3 f dp).2
  have e : sn 3 ≤ 5000 := by decide
  exact ⟨p.sw, fun _ => p.nl, by omega, Nat.le_trans (show d.shown.length + 64 ≤ 10000 by omega) (by decide)⟩
/-- keywords of which one is bad -/
theorem kw_bad {H2 : Hp} {es : List Ent} {ks : List Str} {zs : List V} {p : Addr} (np : H2 p = none) (e : kwD ks zs = entsD es) (h : ∀ x, x ∈ es → Dx K H2 x.2.1 x.2.2 ∧ (∀ y, keyD x.1 = .str y → y.length ≤ 1000) ∧ ∀ y, x.2.2 = .str y → y.length ≤ 1000) (nd : (es.map fun e => e.1).Nodup) (few : es.length ≤ 100) (bad : es.all okEnt = false) :
    BadNm K (upd H2 p (.dK (kwD ks zs))) (.ref p) := by
  rw [e]
  refine .dic upd_same (fun x hx => ⟨(h x hx).1.up fun b o hb => ?_, (h x hx).2⟩) nd few bad
  have ne := ne_of_none hb np
  exact OffS.out (by simpa using ne) (by rw [upd_ne ne]; exact hb)
def dbl : PyData := .tuple [.str "f", .tuple [.str "a"], .tuple [.str "b"]]
theorem dbl_ok : termD dbl = true ∧ shortD dbl = true ∧ szD dbl ≤ 1000 ∧ ("a" : Str) ∈ (rowsD dbl).map Prod.fst ∧ ("b" : Str) ∈ (rowsD dbl).map Prod.fst ∧ ("f" : Str) ∈ (rowsD dbl).map Prod.fst := by decide +kernel
def spCr (K : PySem.W.Frag) (tabs : List (Addr × Str)) : Sp := fun vs H Q _ => ∃ (a : Addr) (n : Nat) (x : V) (d : PyData), vs = [.ref a, x] ∧ Dice H a n ∧ n + 2 < cap ∧ Dx K H x d ∧ TermD d ∧ d.depth ≤ 3 ∧ Tabs tabs H ∧
  ∀ H', Bt a H H' → Dice H' a (n + 2) → Tabs tabs H' → Q (.bl true) H'
theorem ok_cr (T : Tx K mg) (Y : Ty T) (TB : TabB base mg Y.cC Y.PC) : FnG P w K mg base 12 T.a_law_changed_right T.d_law_changed_right ["dice", "term"] (spCr K Y.tb) := by
  have nd := sc__law_changed_right.nd
  have Go := ok_odd (P := P) (w := w) (base := base) T
  have Gor := ok_oddR (P := P) (w := w) (base := base) T
  have Gr := ok_rep (P := P) (w := w) (base := base) T
  have Grb := ok_rb (P := P) (w := w) (base := base) T
  have Gn1 := ok_ren1 (P := P) (w := w) (base := base) T
  have Gn2 := ok_ren2 (P := P) (w := w) (base := base) T
  refine okGC T.f_law_changed_right sc__law_changed_right (fun vs H Q E h => ?_) (fun cdv A outer s H vs Q E ecd cm hr h => ?_)
  · obtain ⟨a, n, x, d, rfl, _⟩ := h
    rfl
  · obtain ⟨a, n, x, d, rfl, hd, hn, dx, tm, dp3, tt, q⟩ := h
    have ec : cdv = .ref Y.cC := by rw [← ecd, Y.codeC]
    have tf := termD_formed tm.td
    refine ⟨_, (pss_cons (ps_asg (pe_tup (pa_cons (pe_call Go (hr.mono (by omega)) (by rfl) T.g_law_odd T.f_law_odd.kp T.n_law_odd .nil pass0 (pa_cons (pv 0) pa_nil)) (pa_cons (pe_callB (cr_repr cm hr.units) (by rfl) T.b_repr (by decide +kernel) (pa_cons (pv 1) pa_nil)) pa_nil))) (pg_tup rfl (pgs_cons (pg_name (i := 6) nd rfl (.inr rfl)) (pgs_cons (pg_name (i := 2) nd rfl (.inl rfl)) pgs_nil))))
      (pss_cons (ps_set (i := 5) nd rfl (.inr rfl) (pe_call Gor (hr.mono (by omega)) (by rfl) T.g_law_odd_renaming T.f_law_odd_renaming.kp T.n_law_odd_renaming .nil pass0 (pa_cons (pv 0) pa_nil)))
      (pss_cons (ps_set (i := 3) nd rfl (.inl rfl) (pe_lst (pa_cons (pe_raised T Y.kn (k := 9) (by rfl) TB ec Y.hC.1 Y.hC.2 (hr.mono (by omega)) (lamS_by (sc := defScope s__law_changed_right) (by decide +kernel)) rfl (fun _ _ _ _ _ => rfl) (fun A2 outer2 s2 H2 E2 f2 c2 hr2 => (pe_call Gr (hr2.mono (by omega)) (by rfl) T.greplaced T.freplaced.kp T.nreplaced .nil (passes_call (takes_of rfl rfl rfl rfl) (fun _ _ _ _ h => h)) (pa_cons (pv 6) (pa_cons (pv 1) (pa_cons (pv 1) pa_nil)))))) pa_nil)))
      (pss_cons (ps_expr (pe_bm PySem.F.plainAttrs_list PySem.F.slot_list_append PySem.F.type_list_append mt_append (pv 3) (pa_cons (pe_raised T Y.kn (k := 9) (by rfl) TB ec Y.hC.1 Y.hC.2 (hr.mono (by omega)) (lamS_by (sc := defScope s__law_changed_right) (by decide +kernel)) rfl (fun _ _ _ _ _ => rfl) (fun A2 outer2 s2 H2 E2 f2 c2 hr2 => (pe_call Gr (hr2.mono (by omega)) (by rfl) T.greplaced T.freplaced.kp T.nreplaced .nil (passes_call (takes_of rfl rfl rfl rfl) (fun _ _ _ _ h => h)) (pa_cons (pv 1) (pa_cons (pv 6) (pa_cons (pv 1) pa_nil)))))) pa_nil)))
      (pss_cons (ps_expr (pe_bm PySem.F.plainAttrs_list PySem.F.slot_list_append PySem.F.type_list_append mt_append (pv 3) (pa_cons (pe_raised T Y.kn (k := 9) (by rfl) TB ec Y.hC.1 Y.hC.2 (hr.mono (by omega)) (lamS_by (sc := defScope s__law_changed_right) (by decide +kernel)) rfl (fun _ _ _ _ _ => rfl) (fun A2 outer2 s2 H2 E2 f2 c2 hr2 => (pe_call Gr (hr2.mono (by omega)) (by rfl) T.greplaced T.freplaced.kp T.nreplaced .nil (passes_call (takes_of rfl rfl rfl rfl) (fun _ _ _ _ h => h)) (pa_cons (pv 1) (pa_cons (pv 1) (pa_cons (pv 6) pa_nil)))))) pa_nil)))
      (pss_cons (ps_expr (pe_bm PySem.F.plainAttrs_list PySem.F.slot_list_append PySem.F.type_list_append mt_append (pv 3) (pa_cons (pe_raised T Y.kn (k := 9) (by rfl) TB ec Y.hC.1 Y.hC.2 (hr.mono (by omega)) (lamS_by (sc := defScope s__law_changed_right) (by decide +kernel)) rfl (fun _ _ _ _ _ => rfl) (fun A2 outer2 s2 H2 E2 f2 c2 hr2 => (pe_call Grb (hr2.mono (by omega)) (by rfl) T.grenamed_by T.frenamed_by.kp T.nrenamed_by .nil (passes_call (takes_of rfl rfl rfl rfl) (fun _ _ _ _ h => h)) (pa_cons (pv 6) (pa_cons (pv 5) pa_nil))))) pa_nil)))
      (pss_cons (ps_expr (pe_bm PySem.F.plainAttrs_list PySem.F.slot_list_append PySem.F.type_list_append mt_append (pv 3) (pa_cons (pe_raised T Y.kn (k := 9) (by rfl) TB ec Y.hC.1 Y.hC.2 (hr.mono (by omega)) (lamS_by (sc := defScope s__law_changed_right) (by decide +kernel)) rfl (fun _ _ _ _ _ => rfl) (fun A2 outer2 s2 H2 E2 f2 c2 hr2 => (pe_callKw Gn1 (hr2.mono (by omega)) (by rfl) T.grenamed T.frenamed.kp (passes_call (takes_of rfl rfl rfl rfl) (fun _ _ _ _ h => h)) (pa_cons (pv 6) pa_nil) (pk_cons pe_str pk_nil)))) pa_nil)))
      (pss_cons (ps_expr (pe_bm PySem.F.plainAttrs_list PySem.F.slot_list_append PySem.F.type_list_append mt_append (pv 3) (pa_cons (pe_raised T Y.kn (k := 9) (by rfl) TB ec Y.hC.1 Y.hC.2 (hr.mono (by omega)) (lamS_by (sc := defScope s__law_changed_right) (by decide +kernel)) rfl (fun _ _ _ _ _ => rfl) (fun A2 outer2 s2 H2 E2 f2 c2 hr2 => (pe_callKw Gn1 (hr2.mono (by omega)) (by rfl) T.grenamed T.frenamed.kp (passes_call (takes_of rfl rfl rfl rfl) (fun _ _ _ _ h => h)) (pa_cons (pv 6) pa_nil) (pk_cons pe_str pk_nil)))) pa_nil)))
      (pss_cons (ps_expr (pe_bm PySem.F.plainAttrs_list PySem.F.slot_list_append PySem.F.type_list_append mt_append (pv 3) (pa_cons (pe_raised T Y.kn (k := 9) (by rfl) TB ec Y.hC.1 Y.hC.2 (hr.mono (by omega)) (lamS_by (sc := defScope s__law_changed_right) (by decide +kernel)) rfl (fun _ _ _ _ _ => rfl) (fun A2 outer2 s2 H2 E2 f2 c2 hr2 => (pe_call Grb (hr2.mono (by omega)) (by rfl) T.grenamed_by T.frenamed_by.kp T.nrenamed_by .nil (passes_call (takes_of rfl rfl rfl rfl) (fun _ _ _ _ h => h)) (pa_cons (pv 1) (pa_cons (pv 5) pa_nil))))) pa_nil)))
      (pss_cons (ps_expr (pe_bm PySem.F.plainAttrs_list PySem.F.slot_list_append PySem.F.type_list_append mt_append (pv 3) (pa_cons (pe_raised T Y.kn (k := 9) (by rfl) TB ec Y.hC.1 Y.hC.2 (hr.mono (by omega)) (lamS_by (sc := defScope s__law_changed_right) (by decide +kernel)) rfl (fun _ _ _ _ _ => rfl) (fun A2 outer2 s2 H2 E2 f2 c2 hr2 => (pe_callKw Gn1 (hr2.mono (by omega)) (by rfl) T.grenamed T.frenamed.kp (passes_call (takes_of rfl rfl rfl rfl) (fun _ _ _ _ h => h)) (pa_cons (pv 1) pa_nil) (pk_cons pe_str pk_nil)))) pa_nil)))
      (pss_cons (ps_expr (pe_bm PySem.F.plainAttrs_list PySem.F.slot_list_append PySem.F.type_list_append mt_append (pv 3) (pa_cons (pe_raised T Y.kn (k := 9) (by rfl) TB ec Y.hC.1 Y.hC.2 (hr.mono (by omega)) (lamS_by (sc := defScope s__law_changed_right) (by decide +kernel)) rfl (fun _ _ _ _ _ => rfl) (fun A2 outer2 s2 H2 E2 f2 c2 hr2 => (pe_callKw Gn1 (hr2.mono (by omega)) (by rfl) T.grenamed T.frenamed.kp (passes_call (takes_of rfl rfl rfl rfl) (fun _ _ _ _ h => h)) (pa_cons (pv 1) pa_nil) (pk_cons (pv 6) pk_nil)))) pa_nil)))
      (pss_cons (ps_expr (pe_bm PySem.F.plainAttrs_list PySem.F.slot_list_append PySem.F.type_list_append mt_append (pv 3) (pa_cons (pe_raised T Y.kn (k := 9) (by rfl) TB ec Y.hC.1 Y.hC.2 (hr.mono (by omega)) (lamS_by (sc := defScope s__law_changed_right) (by decide +kernel)) rfl (fun _ _ _ _ _ => rfl) (fun A2 outer2 s2 H2 E2 f2 c2 hr2 => (pe_callKw Gn2 (hr2.mono (by omega)) (by rfl) T.grenamed T.frenamed.kp (passes_call (takes_of rfl rfl rfl rfl) (fun _ _ _ _ h => h)) (pa_cons (pv 1) pa_nil) (pk_cons pe_str (pk_cons pe_str pk_nil))))) pa_nil)))
      (pss_cons (ps_set (i := 4) nd rfl (.inr rfl) (pe_tup (pa_cons pe_str (pa_cons (pe_tup (pa_cons pe_str pa_nil)) (pa_cons (pe_tup (pa_cons pe_str pa_nil)) pa_nil)))))
      (pss_cons (ps_expr (pe_bm PySem.F.plainAttrs_list PySem.F.slot_list_append PySem.F.type_list_append mt_append (pv 3) (pa_cons (pe_raised T Y.kn (k := 9) (by rfl) TB ec Y.hC.1 Y.hC.2 (hr.mono (by omega)) (lamS_by (sc := defScope s__law_changed_right) (by decide +kernel)) rfl (fun _ _ _ _ _ => rfl) (fun A2 outer2 s2 H2 E2 f2 c2 hr2 => (pe_call Grb (hr2.mono (by omega)) (by rfl) T.grenamed_by T.frenamed_by.kp T.nrenamed_by .nil (passes_call (takes_of rfl rfl rfl rfl) (fun _ _ _ _ h => h)) (pa_cons (pv 4) (pa_cons (pe_disp (pps_cons pe_str pe_str pps_nil) (by rfl) (by rfl) (fun z => by cases z) (by decide)) pa_nil))))) pa_nil)))
      (pss_cons (ps_expr (pe_bm PySem.F.plainAttrs_list PySem.F.slot_list_append PySem.F.type_list_append mt_append (pv 3) (pa_cons (pe_raised T Y.kn (k := 9) (by rfl) TB ec Y.hC.1 Y.hC.2 (hr.mono (by omega)) (lamS_by (sc := defScope s__law_changed_right) (by decide +kernel)) rfl (fun _ _ _ _ _ => rfl) (fun A2 outer2 s2 H2 E2 f2 c2 hr2 => (pe_callKw Gn1 (hr2.mono (by omega)) (by rfl) T.grenamed T.frenamed.kp (passes_call (takes_of rfl rfl rfl rfl) (fun _ _ _ _ h => h)) (pa_cons (pv 4) pa_nil) (pk_cons pe_str pk_nil)))) pa_nil)))
      (pss_cons (ps_if (pt_cmpR op_ne (pe_callB (cr_repr cm hr.units) (by rfl) T.b_repr (by decide +kernel) (pa_cons (pv 1) pa_nil)) (pv 2) (nomark _)) (pss_one (ps_ret pe_bl)) pss_nil)
      (pss_one (ps_ret (pe_cmpR (op_eqF (room200 hr)) (pv 3) (pe_op op_cat (pe_op op_cat (pe_op op_rep (pe_lst (pa_cons pe_str pa_nil)) pe_int) (pe_op op_rep (pe_lst (pa_cons pe_str pa_nil)) pe_int)) (pe_op op_rep (pe_lst (pa_cons pe_str pa_nil)) pe_int)) (nomark _)))))))))))))))))))), ?_⟩
    refine ⟨_, rfl, a, n, [a], rfl, hd, by omega, List.mem_singleton_self _, off_one hd, fun xo do' H1 bt1 d1 dxo mo => ?_⟩
    have b1 : Bt a H H1 := .but bt1
    have dx1 := b1.dx hd tf dx
    obtain ⟨r1, r2, r3, r4⟩ := repr_ok tf dp3
    refine ⟨_, rfl, x, d, rfl, dx1, r1, r2, r3, r4, (by show 2 ≤ sizeLine; decide), fun p np => ⟨p, _, rfl, SqT.of upd_same, rfl, _, _, rfl, _, _, rfl, rfl, ?_⟩⟩
    have s2 := same_put (o := .tup [xo, .str d.shown]) np
    have so := odds_odd _ mo
    have d2 := d1.up s2
    have t2 := (tabs_but tt bt1 hd).ext s2
    have b2 := b1.trans (.same s2)
    have dxo2 := dxo.up (OffS.same (S := [a]) s2)
    have dx2 := dx1.up s2
    generalize upd H1 p (.tup [xo, .str d.shown]) = H2 at s2 d2 t2 b2 dxo2 dx2 ⊢
    clear s2 np b1 dx1 dxo d1 bt1
    refine ⟨_, rfl, a, n + 1, [a], rfl, d2, by omega, List.mem_singleton_self _, off_one d2, fun xn H3 bt3 d3 bn => ?_⟩
    have b3 : Bt a H H3 := b2.trans (.but bt3)
    have dxo3 := offs_all (dxo2.ext (bt_offs (.but bt3)))
    have dx3 := (Bt.but bt3).dx d2 tf dx2
    have t3 := tabs_but t2 bt3 d2
    have bn3 := bn.up OffS.all
    clear dxo2 dx2 t2 b2 bt3 d2 bn
    have zo : ∀ {H : Hp}, ExtN H3 H → Dz K H xo do' := fun e => dz_odd (dxo3.ext e) so
    have zt : ∀ {H : Hp}, ExtN H3 H → Dz K H x d := fun e => dz_term (dx3.ext e) tm
    have sz : szD d ≤ 1000 := Nat.le_trans tm.sz (by decide)
    refine asg_says t3 (says_lam wdT fun H E Q e q => ⟨_, rfl, _, rfl, _, rfl, _, _, _, _, _, _, rfl, zo e, zt e, zt e, by rw [so.noT]; rfl, q⟩) fun l H4 L4 => ?_
    refine app_says rfl L4 (says_lam wdT fun H E Q e q => ⟨_, rfl, _, rfl, _, rfl, _, _, _, _, _, _, rfl, zt e, zo e, zt e, by rw [so.noT, Bool.and_false]; rfl, q⟩) (by decide) fun H5 L5 => ?_
    refine app_says rfl L5 (says_lam wdT fun H E Q e q => ⟨_, rfl, _, rfl, _, rfl, _, _, _, _, _, _, rfl, zt e, zt e, zo e, by rw [so.noT, Bool.and_false], q⟩) (by decide) fun H6 L6 => ?_
    refine app_says rfl L6 (says_lam wdT fun H E Q e q => ⟨_, rfl, _, rfl, _, _, _, rfl, zo e, .inl ⟨so.noT, q⟩⟩) (by decide) fun H7 L7 => ?_
    refine app_says rfl L7 (says_lam wdT fun H E Q e q => ⟨_, rfl, _, rfl, rfl, fun p np => ⟨_, _, _, rfl, (zo e).up (same_put np), .inl ⟨so.noT, fun H' s => q H' ((same_put np).trans s)⟩⟩⟩) (by decide) fun H8 L8 => ?_
    refine app_says rfl L8 (says_lam wdT fun H E Q e q => ⟨_, rfl, _, rfl, rfl, fun p np => ⟨_, _, _, rfl, (zo e).up (same_put np), .inl ⟨so.noT, fun H' s => q H' ((same_put np).trans s)⟩⟩⟩) (by decide) fun H9 L9 => ?_
    refine app_says rfl L9 (says_lam wdN fun H E Q e q => ⟨_, rfl, _, rfl, _, _, _, rfl, zt e, .inr (.inl ⟨tm.td, sz, bn3.ext e, q⟩)⟩) (by decide) fun H10 L10 => ?_
    have okx : ∀ {z : Str}, z.length ≤ 1000 → ∀ y, PyData.str z = .str y → y.length ≤ 1000 := fun h y e => by cases e; exact h
    refine app_says rfl L10 (says_lam wdN fun H E Q e q => ⟨_, rfl, _, rfl, rfl, fun p np => ⟨_, _, _, rfl, (zt e).up (same_put np), .inr (.inl ⟨tm.td, sz, kw_bad (es := [(.inr "a", .str "A", .str "A")]) np rfl (fun y hy => by
      rw [List.mem_singleton.mp hy]
      exact ⟨.str _, okx (by decide), okx (by decide)⟩) (by simp) (by show 1 ≤ 100; decide) (by decide +kernel), fun H' s => q H' ((same_put np).trans s)⟩)⟩⟩) (by decide) fun H11 L11 => ?_
    refine app_says rfl L11 (says_lam wdN fun H E Q e q => ⟨_, rfl, _, rfl, _, rfl, rfl, fun p np => ⟨_, _, _, rfl, (zt e).up (same_put np), .inr (.inl ⟨tm.td, sz, kw_bad (es := [(.inr "a", xo, do')]) np rfl (fun y hy => by
      rw [List.mem_singleton.mp hy]
      refine ⟨dxo3.ext e, okx (by decide), fun y z => ?_⟩
      have := so.short
      rw [show do' = .str y from z] at this
      simpa [shortD] using this) (by simp) (by show 1 ≤ 100; decide) (by simp [okEnt, so.noN]), fun H' s => q H' ((same_put np).trans s)⟩)⟩⟩) (by decide) fun H12 L12 => ?_
    refine app_says rfl L12 (says_lam wdN fun H E Q e q => ⟨_, rfl, _, rfl, rfl, fun p np => ⟨_, _, _, rfl, (zt e).up (same_put np), .inr (.inl ⟨tm.td, sz, kw_bad (es := [(.inr "A", .str "b", .str "b"), (.inr "q", .str "w", .str "w")]) np rfl (fun y hy => by
      rcases List.mem_cons.mp hy with rfl | hy
      · exact ⟨.str _, okx (by decide), okx (by decide)⟩
      · rw [List.mem_singleton.mp hy]
        exact ⟨.str _, okx (by decide), okx (by decide)⟩) (by decide +kernel) (by show 2 ≤ 100; decide) (by decide +kernel), fun H' s => q H' ((same_put np).trans s)⟩)⟩⟩) (by decide) fun H13 L13 => ?_
    -- double
    refine ⟨(by show 1 ≤ sizeLine; decide), fun u1 n1 => ⟨(by show 1 ≤ sizeLine; decide), fun u2 n2 => ⟨(by show 3 ≤ sizeLine; decide), fun u3 n3 => ?_⟩⟩⟩
    have s1 := same_put (o := .tup [.str "a"]) n1
    have s2 := same_put (o := .tup [.str "b"]) n2
    have s3 := same_put (o := .tup [.str "f", .ref u1, .ref u2]) n3
    have e3 : (upd (upd (upd H13 u1 (.tup [.str "a"])) u2 (.tup [.str "b"])) u3 (.tup [.str "f", .ref u1, .ref u2])) u3 = some (.tup [.str "f", .ref u1, .ref u2]) := upd_same
    have e2 := s3 _ _ (show (upd (upd H13 u1 (.tup [.str "a"])) u2 (.tup [.str "b"])) u2 = some (.tup [.str "b"]) from upd_same)
    have e1 := s3 _ _ (s2 _ _ (show (upd H13 u1 (.tup [.str "a"])) u1 = some (.tup [.str "a"]) from upd_same))
    have L14 := L13.grow (s1.trans (s2.trans s3))
    generalize upd (upd (upd H13 u1 (.tup [.str "a"])) u2 (.tup [.str "b"])) u3 (.tup [.str "f", .ref u1, .ref u2]) = H14 at e1 e2 e3 L14 ⊢
    clear s1 s2 s3 n1 n2 n3
    have nl : ∀ {b : Addr} {xs : List V}, H14 b = some (.tup xs) → b ∉ [l] := fun {b xs} h z => by
      rw [List.mem_singleton.mp z, L14.at_] at h
      cases h
    have L15 := L14.rebase
    have dd : Dx K (OffS [l] H14) (.ref u3) dbl := .tup (OffS.out (nl e3) e3) (.cons (.str _) (.cons (.tup (OffS.out (nl e1) e1) (.cons (.str _) .nil)) (.cons (.tup (OffS.out (nl e2) e2) (.cons (.str _) .nil)) .nil)))
    have eB : ExtN H3 (OffS [l] H14) := fun b o h n => OffS.out (fun z => by
      rw [List.mem_singleton.mp z] at h
      obtain ⟨ps, hp⟩ := L14.new o h
      exact n ps hp) (L14.ext b o h n)
    have dx15 := dx3.ext eB
    have b15 := b3.trans (.ext eB)
    have d15 := dice_ext d3 eB
    have okd := dbl_ok
    have zd : ∀ {H : Hp}, ExtN (OffS [l] H14) H → Dz K H (.ref u3) dbl := fun e => ⟨dd.ext e, okd.2.1, Nat.le_trans okd.2.2.1 (by decide)⟩
    generalize OffS [l] H14 = B at L15 dd dx15 zd b15 d15 eB
    clear nl e1 e2 e3 dxo3 dx3 t3 bn3 zo zt
    refine app_says rfl L15 (says_lam wdO fun H E Q e q => ⟨_, rfl, fun p np => ?_⟩) (by decide) fun H15 L16 => ?_
    · have s2 : Same H (upd (upd H p (.dK [])) p (.dK [(.inr "a", .str "b")])) := fun b o hb => by
        have ne := ne_of_none hb np
        rw [upd_ne ne, upd_ne ne]
        exact hb
      exact ⟨upd_same, [(.inr "a", .str "b")], rfl, (by show 1 ≤ 15; decide), _, _, dbl, rfl, (zd e).up s2, .inr (.inr ⟨p, [("a", "b")], "a", "b", okd.1, okd.2.2.1, rfl, upd_same, (fun x y h => by
        simp only [List.mem_singleton, Prod.mk.injEq] at h
        obtain ⟨rfl, rfl⟩ := h
        exact ⟨by decide +kernel, by decide +kernel⟩), by simp, by decide, by decide +kernel, okd.2.2.2.1, okd.2.2.2.2.1, by decide +kernel, fun H' s => q H' (s2.trans s)⟩)⟩
    refine app_says rfl L16 (says_lam wdO fun H E Q e q => ⟨_, rfl, _, rfl, rfl, fun p np => ?_⟩) (by decide) fun H16 L17 => ?_
    · have s2 := same_put (o := .dK (kwD ["a"] [V.str "f"])) np
      exact ⟨_, _, dbl, rfl, (zd e).up s2, .inr (.inr ⟨p, [("a", "f")], "a", "f", okd.1, okd.2.2.1, rfl, upd_same, (fun x y h => by
        simp only [List.mem_singleton, Prod.mk.injEq] at h
        obtain ⟨rfl, rfl⟩ := h
        exact ⟨by decide +kernel, by decide +kernel⟩), by simp, by decide, by decide +kernel, okd.2.2.2.1, okd.2.2.2.2.2, by decide +kernel, fun H' s => q H' (s2.trans s)⟩)⟩
    refine ⟨_, rfl, x, d, rfl, dx15.ext L17.ext, r1, r2, r3, r4, _, rfl, rfl, _, rfl, iteNS rfl ?_⟩
    refine eq_says (ws := ["term", "term", "term", "term", "term", "term", "name", "name", "name", "name", "operation", "operation"]) rfl L17 (mkw_cat (mkw_cat (mkw_rep "term" 6 (by decide)) (mkw_rep "name" 4 (by decide)) (by decide)) (mkw_rep "operation" 2 (by decide)) (by decide)) (by decide +kernel) fun H17 s17 => ?_
    exact q H17 ((bt_lst b15 L17).trans (.same s17)) ((dice_ext d15 L17.ext).up s17) (L17.tabs.ext s17)
end
end K05
/-! The law of k05. -/
namespace K05
open PySem PySem.Spec PyProof.Rows L2 Kx LamX
section
variable {P : Program} {w : World} {K : PySem.W.Frag} {mg : Str → Option Value} {base : Heap}
def spLaw (K : PySem.W.Frag) (tabs : List (Addr × Str)) : Sp := fun vs H Q _ => ∃ (a : Addr) (ns : List Int), vs = [.ref a] ∧ SqL K H a (ns.map V.int) ∧ Tabs tabs H ∧ ∀ H', Q (.bl true) H'
theorem ok_law (T : Tx K mg) (Y : Ty T) (sT : PySem.W.subIn K (.ref T.CInvalidTerm) (.type "StopIteration") = some false) (TBM : TabB base mg Y.cM Y.PM) (TBA : TabB base mg Y.cA Y.PA) (TBC : TabB base mg Y.cC Y.PC) : FnG P w K mg base 20 T.alaw T.dlaw ["script"] (spLaw K Y.tb) := by
  have nd := sc_law.nd
  have Gd := ok_dice (P := P) (w := w) (base := base) T
  have Gn := ok_names (P := P) (w := w) (base := base) T
  have Gt := ok_lt (P := P) (w := w) (base := base) T 3
  have Gm := ok_mr (P := P) (w := w) (base := base) T Y TBM
  have Ga := ok_ar (P := P) (w := w) (base := base) T Y sT TBA
  have Gcr := ok_cr (P := P) (w := w) (base := base) T Y TBC
  refine okG T.flaw sc_law (fun vs H Q E h => ?_) (fun cdv A outer s H vs Q E cm hr h => ?_)
  · obtain ⟨a, ns, rfl, _⟩ := h
    rfl
  · obtain ⟨a, ns, rfl, hS, tt, q⟩ := h
    refine ⟨_, (pss_cons (ps_for PassesOwn.never rfl (pi_range1 (by rfl) T.b_range (pa_cons (pe_callB (call_max2 rfl) (by rfl) T.b_max (by decide +kernel) (pa_cons pe_int (pa_cons (pe_callB (call_min2 rfl) (by rfl) T.b_min (by decide +kernel) (pa_cons pe_int (pa_cons (pe_callB call_len_seq (by rfl) T.b_len (by decide +kernel) (pa_cons (pv 0) pa_nil)) pa_nil))) pa_nil))) pa_nil)) (pg_name (i := 1) nd rfl (.inl rfl)) (pss_cons (ps_set (i := 2) nd rfl (.inl rfl) (pe_call Gd (hr.mono (by omega)) (by rfl) T.g_law_dice T.f_law_dice.kp T.n_law_dice .nil pass0 (pa_cons (pv 0) (pa_cons (pv 1) pa_nil))))
      (pss_cons (ps_set (i := 3) nd rfl (.inl rfl) (pe_call Gn (hr.mono (by omega)) (by rfl) T.g_law_names T.f_law_names.kp T.n_law_names .nil pass0 (pa_cons (pv 2) (pa_cons pe_int pa_nil))))
      (pss_one (ps_for PassesOwn.never rfl (pi_range1 (by rfl) T.b_range (pa_cons pe_int pa_nil)) (pg_name (i := 4) nd rfl (.inl rfl)) (pss_cons (ps_set (i := 5) nd rfl (.inl rfl) (pe_call Gt (hr.mono (by omega)) (by rfl) T.g_law_term T.f_law_term.kp T.n_law_term .nil pass0 (pa_cons (pv 2) (pa_cons (pv 3) (pa_cons pe_int pa_nil)))))
      (pss_cons (ps_if (PW.pt (pw_or (pt_not (pt_val (pe_call Gm (hr.mono (by omega)) (by rfl) T.g_law_made_right T.f_law_made_right.kp T.n_law_made_right .nil pass0 (pa_cons (pv 2) (pa_cons (pv 5) pa_nil))))) (pw_or1 (pt_not (pt_val (pe_call Ga (hr.mono (by omega)) (by rfl) T.g_law_asked_right T.f_law_asked_right.kp T.n_law_asked_right .nil pass0 (pa_cons (pv 2) (pa_cons (pv 5) pa_nil)))))))) (pss_one (ps_ret pe_bl)) pss_nil)
      (pss_one (ps_if (pt_not (pt_val (pe_callG Gcr cm (hr.mono (by omega)) (by rfl) T.g_law_changed_right T.f_law_changed_right.kp T.n_law_changed_right (pa_cons (pv 2) (pa_cons (pv 5) pa_nil))))) (pss_one (ps_ret pe_bl)) pss_nil)))))))))
      (pss_one (ps_ret pe_bl))), ?_⟩
    have jb : ∀ n : Nat, 1 ≤ (if (if (n : Int) < 6 then (n : Int) else 6) > 1 then (if (n : Int) < 6 then (n : Int) else 6) else 1) ∧ (if (if (n : Int) < 6 then (n : Int) else 6) > 1 then (if (n : Int) < 6 then (n : Int) else 6) else 1) ≤ 6 := fun n => by
      split <;> split <;> omega
    obtain ⟨j1, j2⟩ := jb (ns.map V.int).length
    refine ⟨_, rfl, a, _, rfl, .inl hS, 6, _, rfl, 1, _, rfl, _, rfl, by omega, by omega, ?_⟩
    generalize (if (if (((ns.map V.int).length : Nat) : Int) < 6 then (((ns.map V.int).length : Nat) : Int) else 6) > 1 then (if (((ns.map V.int).length : Nat) : Int) < 6 then (((ns.map V.int).length : Nat) : Int) else 6) else 1) = j at j1 j2 ⊢
    refine for_range (fun i σ H' => ExtN H H' ∧ Tabs Y.tb H' ∧ ∃ y1 y2 y3 y4 y5, σ = [some (.ref a), y1, y2, y3, y4, y5]) ⟨ExtN.refl H, tt, none, none, none, none, none, rfl⟩ ?_ ?_
    · rintro i σ H1 hi ⟨s1, t1, y1, y2, y3, y4, y5, rfl⟩
      have hS1 : SqL K H1 a (ns.map V.int) := by
        rcases hS with (h | ⟨o, h⟩) | h
        · exact .inl (.inl (s1 _ _ h (fun ps e => nomatch e)))
        · exact .inl (.inr ⟨o, s1 _ _ h (fun ps e => nomatch e)⟩)
        · exact .inr h
      refine ⟨_, rfl, _, rfl, a, ns, i, ?_, hS1, by omega, fun H2 p s2 np d0 => ?_⟩
      · rw [Int.zero_add]
        rfl
      have t2 := t1.ext s2
      refine ⟨_, rfl, p, 0, rfl, d0, by decide, fun nm zs H3 bt3 dd3 nn npn rn gd => ?_⟩
      have dd3 : Dice H3 p 100 := dd3
      have b3 : Bt p H1 H3 := (Bt.same s2).trans (.but bt3)
      have t3 := tabs_but t2 bt3 d0
      refine ⟨5, rfl, by decide, by decide, for_range (fun k σ G => Bt p H1 G ∧ Dice G p (100 + 100 * k) ∧ Tabs Y.tb G ∧ RowsIn G nm zs ∧ ∃ y1 y4 y5, σ = [some (.ref a), y1, some (.ref p), some (.ref nm), y4, y5]) ⟨b3, dd3, t3, rn, _, _, _, rfl⟩ ?_ ?_⟩
      · rintro k σ G1 hk ⟨bG, dG, tG, rG, z1, z4, z5, rfl⟩
        have hk : k < 5 := hk
        refine ⟨_, rfl, _, rfl, p, nm, 100 + 100 * k, zs, rfl, by decide, dG, by show 100 + 100 * k + 26 < 1000000; omega, rG, npn, gd, fun x d H4 bt4 d4 dx tm => ?_⟩
        have d4 : Dice H4 p (100 + 100 * k + 26) := d4
        have r4 := rG.but bt4 dG npn
        have t4 := tabs_but tG bt4 dG
        have td := termD_of gd tm
        refine ⟨_, rfl, _, rfl, p, 100 + 100 * k + 26, x, d, rfl, d4, by unfold cap; omega, dx, td, t4, fun H5 b5 d5 t5 => ⟨_, rfl, iteF ?_⟩⟩
        have dx5 := b5.dx d4 tm.fm dx
        refine ⟨_, rfl, _, rfl, p, 100 + 100 * k + 26 + 2, x, d, rfl, d5, by unfold cap; omega, dx5, td, t5, fun H6 b6 d6 t6 => ⟨_, rfl, iteF ?_⟩⟩
        have dx6 := b6.dx d5 tm.fm dx5
        refine ⟨_, rfl, _, rfl, p, 100 + 100 * k + 26 + 2 + 1, x, d, rfl, d6, by unfold cap; omega, dx6, td, tm.dp, t6, fun H7 b7 d7 t7 => ⟨_, rfl, iteF ?_⟩⟩
        have r7 := ((b5.trans (b6.trans b7))).rows d4 r4 npn
        have b17 := bG.trans ((Bt.but bt4).trans (b5.trans (b6.trans b7)))
        exact ⟨b17, d7.le (show 100 + 100 * k + 26 + 2 + 1 + 2 ≤ 100 + 100 * (k + 1) by omega), t7, r7, _, _, _, rfl⟩
      · rintro σ G ⟨bG, dG, tG, rG, z1, z4, z5, rfl⟩
        refine ⟨fun b o h n => ?_, tG, _, _, _, _, _, rfl⟩
        have h1 := s1 b o h n
        have ne : b ≠ p := ne_of_none h1 np
        exact bG b o h1 ne n
    · rintro σ G ⟨s1, t1, y1, y2, y3, y4, y5, rfl⟩
      exact q G
end
end K05
namespace K05
open PySem PySem.Spec PyProof.Rows L2 Kx LamX
/-- what is said of the classes, by their addresses -/
structure KindsA (K : PySem.W.Frag) (CN CT CO CP : Addr) (cs : List Addr) : Prop where
  pN : PySem.W.exmOne K (.ref CN) (.ref CP) = some true
  pT : PySem.W.exmOne K (.ref CT) (.ref CP) = some true
  pO : PySem.W.exmOne K (.ref CO) (.ref CP) = some true
  xN : ExcC K CN
  xT : ExcC K CT
  xO : ExcC K CO
  rN : row K cs CN = one 0
  rT : row K cs CT = one 1
  rO : row K cs CO = one 2
  sT : PySem.W.subIn K (.ref CT) (.type "StopIteration") = some false
theorem kinds_of {K : PySem.W.Frag} {mg : Str → Option Value} {CN CT CO CP : Addr} {cs : List Addr} (T : Tx K mg) (h : KindsA K CN CT CO CP cs) (e1 : T.CInvalidName = CN) (e2 : T.CInvalidTerm = CT) (e3 : T.CInvalidOperation = CO) (e4 : T.CPartError = CP) (e5 : cls T = cs) : Kinds T ∧ PySem.W.subIn K (.ref T.CInvalidTerm) (.type "StopIteration") = some false := by
  subst e1 e2 e3 e4 e5
  exact ⟨⟨h.pN, h.pT, h.pO, h.xN, h.xT, h.xO, h.rN, h.rT, h.rO⟩, h.sT⟩
end K05
/-! The end of a law that makes lambdas, where no repr runs around it. -/
namespace Kx
open PySem PySem.Spec PyProof.Rows L2 LamX
/-- the script and the tables alone may stand -/
def OnlyT (cs : List (Addr × Addr)) (H : Hp) : Prop := ∀ b, H b = none ∨ (∃ p ∈ cs, b = p.2) ∨ ∃ o xs, H b = some (.frz o (.lst xs))
section
variable {P : Program} {w : World} {K : PySem.W.Frag} {mg mb : Str → Option Value} {k : Nat} {fa a : Addr} {fd : FuncData} {x : Str} {sp : Sp} {s₁ : Shared} {vs : List Value} {ns : List Int} {cs : List (Addr × Addr)}
/-- what is known of the makers' code objects where the law is called -/
structure Makers (K : PySem.W.Frag) (cs : List (Addr × Addr)) (h : Heap) : Prop where
  tab : ∀ p ∈ cs, h.get? p.2 = some { cls := .none, data := .fields #[] }
  out : ∀ p ∈ cs, K.lookup p.2 = none
  hd : ∀ p ∈ cs, PySem.W.CodeHd h p.1 p.2
/-- the builtins' module, as a maker asks for it -/
def BmAt (mg : Str → Option Value) (h : Heap) : Prop := ∃ (bm : Addr) (ob : Obj), mg "__builtins__" = some (.ref bm) ∧ bm ≠ builtinsNs ∧ h.get? bm = some ob ∧ ob.cls = .type "module" ∧ ob.dict = some builtinsNs ∧ ob.data = .plain
theorem law_fromT {H : Hp} (M : Makers K cs s₁.heap) (bmA : BmAt mg s₁.heap) (hH : ∀ p ∈ cs, H p.2 = some (.tbl #[])) (hO : OnlyT cs H) (hS : SqL K H a (ns.map V.int)) (hok : HOk P w H s₁.heap)
    (hA : ∀ b, H b ≠ none → b = a ∨ ∃ p ∈ cs, b = p.2) (hK : H a ≠ none → K.lookup a = none) (KX : K.In s₁.heap) (nsG : s₁.heap.Ns mainGlobals mg) (nsB : s₁.heap.Ns builtinsNs mb) (boot : ∀ x : Str, x ≠ "__name__" → mb x = bootBuiltins x) (lim : s₁.heap.NoLimit) (nog : s₁.gens = #[])
    (ha : s₁.heap.get? a = some { cls := .type "list", data := .seq vs.toArray }) (hr : Room k callerA)
    (F : ∀ base : Heap, K.In base → base.Ns mainGlobals mg → (∀ p ∈ cs, TabB base mg p.1 p.2) → FnG P w K mg base k fa fd [x] sp) (hbind : ∀ (s : Shared) (u : Value), BindsTo s fd ⟨[u], []⟩ [(x, u)])
    (hsp : sp [.ref a] H (fun v _ => v = .bl true) fun _ _ _ => False) :
    codeAny (model P w) callerA (.call (.ref fa) ⟨[.ref a], []⟩) (fun r s' => r = .ok (.ret (.bool true)) ∧ OldK s₁.heap s'.heap ∧ s'.os = s₁.os ∧ AllBare s'.gens) s₁ := by
  have hid : ∀ {b o}, s₁.heap.get? b = some o → H b = none → (hidT s₁.heap H).get? b = some o := fun e n => hidT_get e n
  -- what is neither a list nor an empty table is not tracked
  have off : ∀ {b : Addr} {o : Obj}, s₁.heap.get? b = some o → (∀ l n, o.data ≠ .seq l n) → o.data ≠ .fields #[] → H b = none := by
    intro b o e h1 h2
    cases q : H b with
    | none => rfl
    | some u =>
      rcases hA b (by simp [q]) with z | ⟨p, hp, z⟩
      · subst z
        rw [ha] at e
        cases e
        exact absurd rfl (h1 _ _)
      · subst z
        rw [M.tab p hp] at e
        cases e
        exact absurd rfl h2
  have offD : ∀ {b : Addr} {o : Obj} {es : Array DictEntry} {ep : Nat}, s₁.heap.get? b = some o → o.data = .dict es ep → H b = none := fun {b o es ep} e d => off e (fun l n z => by rw [d] at z; cases z) (fun z => by rw [d] at z; cases z)
  have ns_of : ∀ {b : Addr} {m : Str → Option Value}, s₁.heap.Ns b m → (hidT s₁.heap H).Ns b m := by
    rintro b m ⟨o, es, ep, e, d, r⟩
    exact ⟨o, es, ep, hid e (offD e d), d, r⟩
  have kin : K.In (hidT s₁.heap H) := by
    intro b o e
    refine hid (KX b o e) ?_
    cases q : H b with
    | none => rfl
    | some u =>
      rcases hA b (by simp [q]) with z | ⟨p, hp, z⟩
      · subst z
        rw [hK (by simp [q])] at e
        cases e
      · subst z
        rw [M.out p hp] at e
        cases e
  have md : Mod K mg (hidT s₁.heap H) := by
    obtain ⟨mc, h1, h2⟩ := lim
    exact ⟨kin, ns_of nsG, ⟨mb, ns_of nsB, boot⟩, mc, ns_of h1, h2⟩
  have notT : ∀ {b : Addr} {o : Obj}, s₁.heap.get? b = some o → o.data ≠ .fields #[] → ∀ p ∈ cs, b ≠ p.2 := fun {b o} e h p hp z => by
    rw [z, M.tab p hp] at e
    cases e
    exact h rfl
  have tb : ∀ p ∈ cs, TabB (hidT s₁.heap H) mg p.1 p.2 := by
    intro p hp
    constructor
    · obtain ⟨o, us, file, tf, flags, tg, inF, text, tt, c1, c2, c3, c4, c5⟩ := M.hd p hp
      refine ⟨o, us, file, tf, flags, tg, inF, text, tt, hid c1 (off c1 (fun l n z => ?_) fun z => ?_), c2, c3, c4, c5⟩
      · rw [c3] at z
        cases z
      · rw [c3] at z
        cases z
        simp at c4
    · obtain ⟨bm, ob, b1, b2, b3, b4, b5, b6⟩ := bmA
      refine ⟨bm, ob, b1, b2, fun z => ?_, notT b3 (by rw [b6]; exact fun z => nomatch z) p hp, hid b3 (off b3 (by rw [b6]; exact fun _ _ z => nomatch z) (by rw [b6]; exact fun z => nomatch z)), b4, b5, b6⟩
      obtain ⟨o, es, ep, e, d, _⟩ := nsG
      rw [z, e] at b3
      cases b3
      rw [d] at b6
      cases b6
    · obtain ⟨o, es, ep, e, d, _⟩ := nsG
      exact notT e (by rw [d]; exact fun z => nomatch z) p hp
  have e0 : Env0 P w K mg (hidT s₁.heap H) callerA [] s₁ H := ⟨rfl, md, fun b o e => of_hidT e, Nat.le_of_eq (hidT_size _ _), trivial, fun b hb => (nomatch (show b ∈ ([] : List Addr) from hb)), hok, .of_eq nog⟩
  refine codeAny_mono ((F _ kin (ns_of nsG) tb).run callerA [] s₁ H ⟨[.ref a], []⟩ [Value.ref a] [V.ref a] (fun v _ => v = .bl true) (fun _ _ _ => False) rfl hr e0 (hbind s₁ (.ref a)) (.cons rfl .nil) hsp) ?_
  intro r s' h
  rcases r with e | fl
  · exact h.elim
  rcases fl with _ | _ | _ | u
  · exact h.elim
  · exact h.elim
  · exact h.elim
  obtain ⟨v, H', os, bare, un, hok', r', q⟩ := h
  obtain rfl : v = .bl true := q
  obtain rfl : u = Value.bool true := r'
  have same : ∀ b o, (∀ p ∈ cs, b ≠ p.2) → s₁.heap.get? b = some o → s'.heap.get? b = some o := by
    intro b o nt e
    cases q : H b with
    | none => exact un.keep b o e q (fun z => (nomatch (show b ∈ ([] : List Addr) from z))) (fun z => nomatch z)
    | some u =>
      rcases hO b with z | ⟨p, hp, z⟩ | ⟨ob, xs, z⟩
      · rw [q] at z
        cases z
      · exact absurd z (nt p hp)
      · obtain ⟨e1, _⟩ := hok b _ z
        obtain ⟨e2, _⟩ := hok' b _ (un.frzs b ob _ z)
        rw [e] at e1
        cases e1
        exact e2
  have more : ∀ p ∈ cs, ∃ l : Array Value, s'.heap.get? p.2 = some { cls := .none, data := .fields l } := fun p hp => by
    obtain ⟨l, z⟩ := un.tbls p.2 #[] (hH p hp)
    exact ⟨_, hok' p.2 _ z⟩
  have cases2 : ∀ b : Addr, (∃ p ∈ cs, b = p.2) ∨ ∀ p ∈ cs, b ≠ p.2 := fun b => by
    by_cases h : ∃ p ∈ cs, b = p.2
    · exact .inl h
    · exact .inr fun p hp z => h ⟨p, hp, z⟩
  refine ⟨rfl, ⟨fun b o e => ?_, fun b o e => ?_⟩, os, bare⟩
  · rcases cases2 b with ⟨p, hp, z⟩ | nt
    · obtain ⟨l, hl⟩ := more p hp
      subst z
      rw [M.tab p hp] at e
      cases e
      exact .inr (.inl ⟨((M.hd p hp).tab (M.tab p hp)).isCodeTable, rfl, #[], l, rfl, by simpa using hl⟩)
    · exact .inl (same b o nt e)
  · rcases cases2 b with ⟨p, hp, z⟩ | nt
    · obtain ⟨l, hl⟩ := more p hp
      subst z
      exact ⟨_, hl⟩
    · exact ⟨o, same b o nt e⟩
theorem law_callT (M : Makers K cs s₁.heap) (bmA : BmAt mg s₁.heap) (KX : K.In s₁.heap) (nsG : s₁.heap.Ns mainGlobals mg) (nsB : s₁.heap.Ns builtinsNs mb) (boot : ∀ x : Str, x ≠ "__name__" → mb x = bootBuiltins x) (lim : s₁.heap.NoLimit) (nog : s₁.gens = #[])
    (ha : s₁.heap.get? a = some { cls := .type "list", data := .seq vs.toArray }) (hi : IntsAre vs ns) (hl : ns.length ≤ sizeLine) (hr : Room k callerA)
    (F : ∀ base : Heap, K.In base → base.Ns mainGlobals mg → (∀ p ∈ cs, TabB base mg p.1 p.2) → FnG P w K mg base k fa fd [x] sp) (hbind : ∀ (s : Shared) (u : Value), BindsTo s fd ⟨[u], []⟩ [(x, u)])
    (hsp : ∀ H : Hp, (∀ p ∈ cs, H p.2 = some (.tbl #[])) → SqL K H a (ns.map V.int) → sp [.ref a] H (fun v _ => v = .bl true) fun _ _ _ => False) :
    codeAny (model P w) callerA (.call (.ref fa) ⟨[.ref a], []⟩) (fun r s' => r = .ok (.ret (.bool true)) ∧ OldK s₁.heap s'.heap ∧ s'.os = s₁.os ∧ AllBare s'.gens) s₁ := by
  have rv := vals_ints hi
  have nv := hi.length
  have na : ∀ p ∈ cs, p.2 ≠ a := fun p hp z => by
    have q := M.tab p hp
    rw [z, ha] at q
    cases q
  let H0 : Hp := fun b => if b ∈ cs.map Prod.snd then some (.tbl #[]) else none
  have m_ : ∀ b, b ∈ cs.map Prod.snd ↔ ∃ p ∈ cs, b = p.2 := fun b => by
    rw [List.mem_map]
    exact ⟨fun ⟨p, hp, e⟩ => ⟨p, hp, e.symm⟩, fun ⟨p, hp, e⟩ => ⟨p, hp, e.symm⟩⟩
  have t0 : ∀ p ∈ cs, H0 p.2 = some (.tbl #[]) := fun p hp => if_pos ((m_ _).mpr ⟨p, hp, rfl⟩)
  have n0 : ∀ b, (¬ ∃ p ∈ cs, b = p.2) → H0 b = none := fun b h => if_neg fun z => h ((m_ b).mp z)
  have ok0 : ∀ p ∈ cs, ∀ H, ObjOk P w H s₁.heap p.2 (.tbl #[]) := fun p hp H => M.tab p hp
  cases hk : K.lookup a with
  | some o =>
    have e := KX a o hk
    rw [ha] at e
    cases e
    have S : SqL K H0 a (ns.map V.int) := .inr ⟨_, vs.toArray, _, hk, rfl, rfl, rfl, by rw [List.size_toArray, nv]; exact hl, by simpa using rv⟩
    have aT : ¬ ∃ p ∈ cs, a = p.2 := fun ⟨p, hp, z⟩ => na p hp z.symm
    refine law_fromT (H := H0) M bmA t0 (fun b => ?_) S (fun b u z => ?_) (fun b z => ?_) (fun z => absurd (n0 a aT) z) KX nsG nsB boot lim nog ha hr F hbind (hsp _ t0 S)
    · by_cases h : ∃ p ∈ cs, b = p.2
      · exact .inr (.inl h)
      · exact .inl (n0 b h)
    · by_cases h : ∃ p ∈ cs, b = p.2
      · obtain ⟨p, hp, rfl⟩ := h
        rw [t0 p hp] at z
        cases z
        exact ok0 p hp _
      · rw [n0 b h] at z
        cases z
    · by_cases h : ∃ p ∈ cs, b = p.2
      · exact .inr h
      · exact absurd (n0 b h) z
  | none =>
    let ob : Obj := { cls := .type "list", data := .seq vs.toArray }
    let H : Hp := fun b => if b = a then some (.frz ob (.lst (ns.map V.int))) else H0 b
    have at_ : H a = some (.frz ob (.lst (ns.map V.int))) := if_pos rfl
    have off : ∀ b, b ≠ a → H b = H0 b := fun b h => if_neg h
    have S : SqL K H a (ns.map V.int) := .inl (.inr ⟨ob, at_⟩)
    have t1 : ∀ p ∈ cs, H p.2 = some (.tbl #[]) := fun p hp => (off _ (na p hp)).trans (t0 p hp)
    refine law_fromT (H := H) M bmA t1 (fun b => ?_) S (fun b u z => ?_) (fun b z => ?_) (fun _ => hk) KX nsG nsB boot lim nog ha hr F hbind (hsp _ t1 S)
    · by_cases h : b = a
      · rw [h]
        exact .inr (.inr ⟨_, _, at_⟩)
      · rw [off b h]
        by_cases h2 : ∃ p ∈ cs, b = p.2
        · exact .inr (.inl h2)
        · exact .inl (n0 b h2)
    · by_cases h : b = a
      · subst h
        rw [at_] at z
        cases z
        exact ⟨ha, by rw [List.length_map]; exact hl, vs, _, rv, ha⟩
      · rw [off b h] at z
        by_cases h2 : ∃ p ∈ cs, b = p.2
        · obtain ⟨p, hp, rfl⟩ := h2
          rw [t0 p hp] at z
          cases z
          exact ok0 p hp _
        · rw [n0 b h2] at z
          cases z
    · by_cases h : b = a
      · exact .inl h
      · rw [off b h] at z
        by_cases h2 : ∃ p ∈ cs, b = p.2
        · exact .inr h2
        · exact absurd (n0 b h2) z
end
/-- as walk_ofG, for a law that makes lambdas -/
theorem walk_ofT {l : PySem.W.OpenLaw} {n k : Nat} {q : Program} {loose : List Str} {XP : (Str → Option Value) → Heap → Prop} {YP : World → Heap → Prop} {d : DefRec} {K : Params → PySem.W.Frag} {sp : World → Sp} {x : Str} {cs : List (Addr × Addr)}
    (hn : l.most = some n) (hn2 : n ≤ sizeLine) (hdf : d.params.defaults = []) (hr : Room k callerA) (hY : ∀ (w : World) (h : Heap), YP w h → (K w.params).In h) (hM : ∀ (w : World) (h : Heap), YP w h → Makers (K w.params) cs h)
    (F : ∀ (w : World) (mg : Str → Option Value) (fa : Addr) (h : Heap), (K w.params).In h → h.Ns mainGlobals mg → mg d.name = some (.ref fa) →
      ∃ fd : FuncData, (∀ (s : Shared) (u : Value), BindsTo s fd ⟨[u], []⟩ [(x, u)]) ∧ ∀ base : Heap, (K w.params).In base → base.Ns mainGlobals mg → (∀ p ∈ cs, TabB base mg p.1 p.2) → FnG l.prog w (K w.params) mg base k fa fd [x] (sp w))
    (hsp : ∀ (w : World) (H : Hp) (a : Addr) (ns : List Int), ns.length ≤ n → (∀ p ∈ cs, H p.2 = some (.tbl #[])) → SqL (K w.params) H a (ns.map V.int) → sp w [.ref a] H (fun v _ => v = .bl true) fun _ _ _ => False) :
    PySem.W.WalkO q loose XP YP l.row.toRowW d [] (fun f vs => PySem.call f vs) := by
  refine Att.attach_call hn hdf ?_
  intro w s₀ s₁ mg mb fa o pm cd doc a vs ns G Y ho hd hcd hmg hobj hints hlen hg
  have KX := hY w _ Y
  obtain ⟨fd, hb, hF⟩ := F w mg fa _ KX G.T.g hmg
  exact law_callT (hM w _ Y) G.T.bmain KX G.T.g G.T.b G.T.builtins G.T.nolimit hg hobj hints (Nat.le_trans hlen hn2) hr hF hb fun H hT hS => hsp w H a ns hlen hT hS
end Kx
open PySem PySem.Spec PyProof.Rows L2 Kx
theorem K05.tx_mk {K : PySem.W.Frag} {h : Heap} {mg : Str → Option Value} (X : K.In h) (G : h.Ns mainGlobals mg)
    {fpreorder : Addr} {odpreorder anpreorder : Option Addr} {slpreorder : Array (Option Value)} {ocpreorder kVpreorder dcpreorder pmpreorder cdpreorder ctpreorder : Value}
    {fwritten : Addr} {odwritten anwritten : Option Addr} {slwritten : Array (Option Value)} {ocwritten kVwritten dcwritten pmwritten cdwritten ctwritten : Value}
    {fnumbered : Addr} {odnumbered annumbered : Option Addr} {slnumbered : Array (Option Value)} {ocnumbered kVnumbered dcnumbered pmnumbered cdnumbered ctnumbered : Value}
    {fnumbered_rows : Addr} {odnumbered_rows annumbered_rows : Option Addr} {slnumbered_rows : Array (Option Value)} {ocnumbered_rows kVnumbered_rows dcnumbered_rows pmnumbered_rows cdnumbered_rows ctnumbered_rows : Value}
    {fsizes_of : Addr} {odsizes_of ansizes_of : Option Addr} {slsizes_of : Array (Option Value)} {ocsizes_of kVsizes_of dcsizes_of pmsizes_of cdsizes_of ctsizes_of : Value}
    {foccurs : Addr} {odoccurs anoccurs : Option Addr} {sloccurs : Array (Option Value)} {ococcurs kVoccurs dcoccurs pmoccurs cdoccurs ctoccurs : Value}
    {fput_in : Addr} {odput_in anput_in : Option Addr} {slput_in : Array (Option Value)} {ocput_in kVput_in dcput_in pmput_in cdput_in ctput_in : Value}
    {fwith_names : Addr} {odwith_names anwith_names : Option Addr} {slwith_names : Array (Option Value)} {ocwith_names kVwith_names dcwith_names pmwith_names cdwith_names ctwith_names : Value}
    {fascending : Addr} {odascending anascending : Option Addr} {slascending : Array (Option Value)} {ocascending kVascending dcascending pmascending cdascending ctascending : Value}
    {forder_of : Addr} {odorder_of anorder_of : Option Addr} {slorder_of : Array (Option Value)} {ocorder_of kVorder_of dcorder_of pmorder_of cdorder_of ctorder_of : Value}
    {forder_by_ranks : Addr} {odorder_by_ranks anorder_by_ranks : Option Addr} {slorder_by_ranks : Array (Option Value)} {ocorder_by_ranks kVorder_by_ranks dcorder_by_ranks pmorder_by_ranks cdorder_by_ranks ctorder_by_ranks : Value}
    {franked : Addr} {odranked anranked : Option Addr} {slranked : Array (Option Value)} {ocranked kVranked dcranked pmranked cdranked ctranked : Value}
    {fdense : Addr} {oddense andense : Option Addr} {sldense : Array (Option Value)} {ocdense kVdense dcdense pmdense cddense ctdense : Value}
    {fis_name : Addr} {odis_name anis_name : Option Addr} {slis_name : Array (Option Value)} {ocis_name kVis_name dcis_name pmis_name cdis_name ctis_name : Value}
    {fis_term : Addr} {odis_term anis_term : Option Addr} {slis_term : Array (Option Value)} {ocis_term kVis_term dcis_term pmis_term cdis_term ctis_term : Value}
    {fmake_term : Addr} {odmake_term anmake_term : Option Addr} {slmake_term : Array (Option Value)} {ocmake_term kVmake_term dcmake_term pmmake_term cdmake_term ctmake_term : Value}
    {fmake_cells : Addr} {odmake_cells anmake_cells : Option Addr} {slmake_cells : Array (Option Value)} {ocmake_cells kVmake_cells dcmake_cells pmmake_cells cdmake_cells ctmake_cells : Value}
    {fplaces_of : Addr} {odplaces_of anplaces_of : Option Addr} {slplaces_of : Array (Option Value)} {ocplaces_of kVplaces_of dcplaces_of pmplaces_of cdplaces_of ctplaces_of : Value}
    {flevels : Addr} {odlevels anlevels : Option Addr} {sllevels : Array (Option Value)} {oclevels kVlevels dclevels pmlevels cdlevels ctlevels : Value}
    {fsize_of : Addr} {odsize_of ansize_of : Option Addr} {slsize_of : Array (Option Value)} {ocsize_of kVsize_of dcsize_of pmsize_of cdsize_of ctsize_of : Value}
    {fsubterms : Addr} {odsubterms ansubterms : Option Addr} {slsubterms : Array (Option Value)} {ocsubterms kVsubterms dcsubterms pmsubterms cdsubterms ctsubterms : Value}
    {fstands_in : Addr} {odstands_in anstands_in : Option Addr} {slstands_in : Array (Option Value)} {ocstands_in kVstands_in dcstands_in pmstands_in cdstands_in ctstands_in : Value}
    {freplaced : Addr} {odreplaced anreplaced : Option Addr} {slreplaced : Array (Option Value)} {ocreplaced kVreplaced dcreplaced pmreplaced cdreplaced ctreplaced : Value}
    {frenamed : Addr} {odrenamed anrenamed : Option Addr} {slrenamed : Array (Option Value)} {ocrenamed kVrenamed dcrenamed pmrenamed cdrenamed ctrenamed : Value}
    {frenamed_by : Addr} {odrenamed_by anrenamed_by : Option Addr} {slrenamed_by : Array (Option Value)} {ocrenamed_by kVrenamed_by dcrenamed_by pmrenamed_by cdrenamed_by ctrenamed_by : Value}
    {ftext_of : Addr} {odtext_of antext_of : Option Addr} {sltext_of : Array (Option Value)} {octext_of kVtext_of dctext_of pmtext_of cdtext_of cttext_of : Value}
    {fcheck_term : Addr} {odcheck_term ancheck_term : Option Addr} {slcheck_term : Array (Option Value)} {occheck_term kVcheck_term dccheck_term pmcheck_term cdcheck_term ctcheck_term : Value}
    {fcheck_renaming : Addr} {odcheck_renaming ancheck_renaming : Option Addr} {slcheck_renaming : Array (Option Value)} {occheck_renaming kVcheck_renaming dccheck_renaming pmcheck_renaming cdcheck_renaming ctcheck_renaming : Value}
    {fjoint_places : Addr} {odjoint_places anjoint_places : Option Addr} {sljoint_places : Array (Option Value)} {ocjoint_places kVjoint_places dcjoint_places pmjoint_places cdjoint_places ctjoint_places : Value}
    {fhas_form : Addr} {odhas_form anhas_form : Option Addr} {slhas_form : Array (Option Value)} {ochas_form kVhas_form dchas_form pmhas_form cdhas_form cthas_form : Value}
    {fby_name : Addr} {odby_name anby_name : Option Addr} {slby_name : Array (Option Value)} {ocby_name kVby_name dcby_name pmby_name cdby_name ctby_name : Value}
    {f_law_dice : Addr} {od_law_dice an_law_dice : Option Addr} {sl_law_dice : Array (Option Value)} {oc_law_dice kV_law_dice dc_law_dice pm_law_dice cd_law_dice ct_law_dice : Value}
    {f_law_roll : Addr} {od_law_roll an_law_roll : Option Addr} {sl_law_roll : Array (Option Value)} {oc_law_roll kV_law_roll dc_law_roll pm_law_roll cd_law_roll ct_law_roll : Value}
    {f_law_pick : Addr} {od_law_pick an_law_pick : Option Addr} {sl_law_pick : Array (Option Value)} {oc_law_pick kV_law_pick dc_law_pick pm_law_pick cd_law_pick ct_law_pick : Value}
    {f_law_mixed : Addr} {od_law_mixed an_law_mixed : Option Addr} {sl_law_mixed : Array (Option Value)} {oc_law_mixed kV_law_mixed dc_law_mixed pm_law_mixed cd_law_mixed ct_law_mixed : Value}
    {f_law_names : Addr} {od_law_names an_law_names : Option Addr} {sl_law_names : Array (Option Value)} {oc_law_names kV_law_names dc_law_names pm_law_names cd_law_names ct_law_names : Value}
    {f_law_term : Addr} {od_law_term an_law_term : Option Addr} {sl_law_term : Array (Option Value)} {oc_law_term kV_law_term dc_law_term pm_law_term cd_law_term ct_law_term : Value}
    {f_law_odd : Addr} {od_law_odd an_law_odd : Option Addr} {sl_law_odd : Array (Option Value)} {oc_law_odd kV_law_odd dc_law_odd pm_law_odd cd_law_odd ct_law_odd : Value}
    {f_law_odd_renaming : Addr} {od_law_odd_renaming an_law_odd_renaming : Option Addr} {sl_law_odd_renaming : Array (Option Value)} {oc_law_odd_renaming kV_law_odd_renaming dc_law_odd_renaming pm_law_odd_renaming cd_law_odd_renaming ct_law_odd_renaming : Value}
    {f_law_raised : Addr} {od_law_raised an_law_raised : Option Addr} {sl_law_raised : Array (Option Value)} {oc_law_raised kV_law_raised dc_law_raised pm_law_raised cd_law_raised ct_law_raised : Value}
    {f_law_made_right : Addr} {od_law_made_right an_law_made_right : Option Addr} {sl_law_made_right : Array (Option Value)} {oc_law_made_right kV_law_made_right dc_law_made_right pm_law_made_right cd_law_made_right ct_law_made_right : Value}
    {f_law_asked_right : Addr} {od_law_asked_right an_law_asked_right : Option Addr} {sl_law_asked_right : Array (Option Value)} {oc_law_asked_right kV_law_asked_right dc_law_asked_right pm_law_asked_right cd_law_asked_right ct_law_asked_right : Value}
    {f_law_changed_right : Addr} {od_law_changed_right an_law_changed_right : Option Addr} {sl_law_changed_right : Array (Option Value)} {oc_law_changed_right kV_law_changed_right dc_law_changed_right pm_law_changed_right cd_law_changed_right ct_law_changed_right : Value}
    {flaw : Addr} {odlaw anlaw : Option Addr} {sllaw : Array (Option Value)} {oclaw kVlaw dclaw pmlaw cdlaw ctlaw : Value}
    (apreorder : PySem.W.nsIn K mainGlobals "preorder" = some (some (.ref fpreorder))) (lpreorder : K.lookup fpreorder = some ⟨ocpreorder, odpreorder, .func (PySem.W.fnOf "preorder" "preorder" (defArgs K05.s_preorder) (defBody K05.s_preorder) (defScope K05.s_preorder) .none kVpreorder dcpreorder pmpreorder anpreorder cdpreorder ctpreorder), slpreorder⟩) (cpreorder : PySem.W.codeIn K cdpreorder "preorder" = true) (kpreorder : PySem.W.keepIn K (.ref fpreorder) = true)
    (awritten : PySem.W.nsIn K mainGlobals "written" = some (some (.ref fwritten))) (lwritten : K.lookup fwritten = some ⟨ocwritten, odwritten, .func (PySem.W.fnOf "written" "written" (defArgs K05.s_written) (defBody K05.s_written) (defScope K05.s_written) .none kVwritten dcwritten pmwritten anwritten cdwritten ctwritten), slwritten⟩) (cwritten : PySem.W.codeIn K cdwritten "written" = true) (kwritten : PySem.W.keepIn K (.ref fwritten) = true)
    (anumbered : PySem.W.nsIn K mainGlobals "numbered" = some (some (.ref fnumbered))) (lnumbered : K.lookup fnumbered = some ⟨ocnumbered, odnumbered, .func (PySem.W.fnOf "numbered" "numbered" (defArgs K05.s_numbered) (defBody K05.s_numbered) (defScope K05.s_numbered) .none kVnumbered dcnumbered pmnumbered annumbered cdnumbered ctnumbered), slnumbered⟩) (cnumbered : PySem.W.codeIn K cdnumbered "numbered" = true) (knumbered : PySem.W.keepIn K (.ref fnumbered) = true)
    (anumbered_rows : PySem.W.nsIn K mainGlobals "numbered_rows" = some (some (.ref fnumbered_rows))) (lnumbered_rows : K.lookup fnumbered_rows = some ⟨ocnumbered_rows, odnumbered_rows, .func (PySem.W.fnOf "numbered_rows" "numbered_rows" (defArgs K05.s_numbered_rows) (defBody K05.s_numbered_rows) (defScope K05.s_numbered_rows) .none kVnumbered_rows dcnumbered_rows pmnumbered_rows annumbered_rows cdnumbered_rows ctnumbered_rows), slnumbered_rows⟩) (cnumbered_rows : PySem.W.codeIn K cdnumbered_rows "numbered_rows" = true) (knumbered_rows : PySem.W.keepIn K (.ref fnumbered_rows) = true)
    (asizes_of : PySem.W.nsIn K mainGlobals "sizes_of" = some (some (.ref fsizes_of))) (lsizes_of : K.lookup fsizes_of = some ⟨ocsizes_of, odsizes_of, .func (PySem.W.fnOf "sizes_of" "sizes_of" (defArgs K05.s_sizes_of) (defBody K05.s_sizes_of) (defScope K05.s_sizes_of) .none kVsizes_of dcsizes_of pmsizes_of ansizes_of cdsizes_of ctsizes_of), slsizes_of⟩) (csizes_of : PySem.W.codeIn K cdsizes_of "sizes_of" = true) (ksizes_of : PySem.W.keepIn K (.ref fsizes_of) = true)
    (aoccurs : PySem.W.nsIn K mainGlobals "occurs" = some (some (.ref foccurs))) (loccurs : K.lookup foccurs = some ⟨ococcurs, odoccurs, .func (PySem.W.fnOf "occurs" "occurs" (defArgs K05.s_occurs) (defBody K05.s_occurs) (defScope K05.s_occurs) .none kVoccurs dcoccurs pmoccurs anoccurs cdoccurs ctoccurs), sloccurs⟩) (coccurs : PySem.W.codeIn K cdoccurs "occurs" = true) (koccurs : PySem.W.keepIn K (.ref foccurs) = true)
    (aput_in : PySem.W.nsIn K mainGlobals "put_in" = some (some (.ref fput_in))) (lput_in : K.lookup fput_in = some ⟨ocput_in, odput_in, .func (PySem.W.fnOf "put_in" "put_in" (defArgs K05.s_put_in) (defBody K05.s_put_in) (defScope K05.s_put_in) .none kVput_in dcput_in pmput_in anput_in cdput_in ctput_in), slput_in⟩) (cput_in : PySem.W.codeIn K cdput_in "put_in" = true) (kput_in : PySem.W.keepIn K (.ref fput_in) = true)
    (awith_names : PySem.W.nsIn K mainGlobals "with_names" = some (some (.ref fwith_names))) (lwith_names : K.lookup fwith_names = some ⟨ocwith_names, odwith_names, .func (PySem.W.fnOf "with_names" "with_names" (defArgs K05.s_with_names) (defBody K05.s_with_names) (defScope K05.s_with_names) .none kVwith_names dcwith_names pmwith_names anwith_names cdwith_names ctwith_names), slwith_names⟩) (cwith_names : PySem.W.codeIn K cdwith_names "with_names" = true) (kwith_names : PySem.W.keepIn K (.ref fwith_names) = true)
    (aascending : PySem.W.nsIn K mainGlobals "ascending" = some (some (.ref fascending))) (lascending : K.lookup fascending = some ⟨ocascending, odascending, .func (PySem.W.fnOf "ascending" "ascending" (defArgs K05.s_ascending) (defBody K05.s_ascending) (defScope K05.s_ascending) .none kVascending dcascending pmascending anascending cdascending ctascending), slascending⟩) (cascending : PySem.W.codeIn K cdascending "ascending" = true) (kascending : PySem.W.keepIn K (.ref fascending) = true)
    (aorder_of : PySem.W.nsIn K mainGlobals "order_of" = some (some (.ref forder_of))) (lorder_of : K.lookup forder_of = some ⟨ocorder_of, odorder_of, .func (PySem.W.fnOf "order_of" "order_of" (defArgs K05.s_order_of) (defBody K05.s_order_of) (defScope K05.s_order_of) .none kVorder_of dcorder_of pmorder_of anorder_of cdorder_of ctorder_of), slorder_of⟩) (corder_of : PySem.W.codeIn K cdorder_of "order_of" = true) (korder_of : PySem.W.keepIn K (.ref forder_of) = true)
    (aorder_by_ranks : PySem.W.nsIn K mainGlobals "order_by_ranks" = some (some (.ref forder_by_ranks))) (lorder_by_ranks : K.lookup forder_by_ranks = some ⟨ocorder_by_ranks, odorder_by_ranks, .func (PySem.W.fnOf "order_by_ranks" "order_by_ranks" (defArgs K05.s_order_by_ranks) (defBody K05.s_order_by_ranks) (defScope K05.s_order_by_ranks) .none kVorder_by_ranks dcorder_by_ranks pmorder_by_ranks anorder_by_ranks cdorder_by_ranks ctorder_by_ranks), slorder_by_ranks⟩) (corder_by_ranks : PySem.W.codeIn K cdorder_by_ranks "order_by_ranks" = true) (korder_by_ranks : PySem.W.keepIn K (.ref forder_by_ranks) = true)
    (aranked : PySem.W.nsIn K mainGlobals "ranked" = some (some (.ref franked))) (lranked : K.lookup franked = some ⟨ocranked, odranked, .func (PySem.W.fnOf "ranked" "ranked" (defArgs K05.s_ranked) (defBody K05.s_ranked) (defScope K05.s_ranked) .none kVranked dcranked pmranked anranked cdranked ctranked), slranked⟩) (cranked : PySem.W.codeIn K cdranked "ranked" = true) (kranked : PySem.W.keepIn K (.ref franked) = true)
    (adense : PySem.W.nsIn K mainGlobals "dense" = some (some (.ref fdense))) (ldense : K.lookup fdense = some ⟨ocdense, oddense, .func (PySem.W.fnOf "dense" "dense" (defArgs K05.s_dense) (defBody K05.s_dense) (defScope K05.s_dense) .none kVdense dcdense pmdense andense cddense ctdense), sldense⟩) (cdense : PySem.W.codeIn K cddense "dense" = true) (kdense : PySem.W.keepIn K (.ref fdense) = true)
    (ais_name : PySem.W.nsIn K mainGlobals "is_name" = some (some (.ref fis_name))) (lis_name : K.lookup fis_name = some ⟨ocis_name, odis_name, .func (PySem.W.fnOf "is_name" "is_name" (defArgs K05.s_is_name) (defBody K05.s_is_name) (defScope K05.s_is_name) .none kVis_name dcis_name pmis_name anis_name cdis_name ctis_name), slis_name⟩) (cis_name : PySem.W.codeIn K cdis_name "is_name" = true) (kis_name : PySem.W.keepIn K (.ref fis_name) = true)
    (ais_term : PySem.W.nsIn K mainGlobals "is_term" = some (some (.ref fis_term))) (lis_term : K.lookup fis_term = some ⟨ocis_term, odis_term, .func (PySem.W.fnOf "is_term" "is_term" (defArgs K05.s_is_term) (defBody K05.s_is_term) (defScope K05.s_is_term) .none kVis_term dcis_term pmis_term anis_term cdis_term ctis_term), slis_term⟩) (cis_term : PySem.W.codeIn K cdis_term "is_term" = true) (kis_term : PySem.W.keepIn K (.ref fis_term) = true)
    (amake_term : PySem.W.nsIn K mainGlobals "make_term" = some (some (.ref fmake_term))) (lmake_term : K.lookup fmake_term = some ⟨ocmake_term, odmake_term, .func (PySem.W.fnOf "make_term" "make_term" (defArgs K05.s_make_term) (defBody K05.s_make_term) (defScope K05.s_make_term) .none kVmake_term dcmake_term pmmake_term anmake_term cdmake_term ctmake_term), slmake_term⟩) (cmake_term : PySem.W.codeIn K cdmake_term "make_term" = true) (kmake_term : PySem.W.keepIn K (.ref fmake_term) = true)
    (amake_cells : PySem.W.nsIn K mainGlobals "make_cells" = some (some (.ref fmake_cells))) (lmake_cells : K.lookup fmake_cells = some ⟨ocmake_cells, odmake_cells, .func (PySem.W.fnOf "make_cells" "make_cells" (defArgs K05.s_make_cells) (defBody K05.s_make_cells) (defScope K05.s_make_cells) .none kVmake_cells dcmake_cells pmmake_cells anmake_cells cdmake_cells ctmake_cells), slmake_cells⟩) (cmake_cells : PySem.W.codeIn K cdmake_cells "make_cells" = true) (kmake_cells : PySem.W.keepIn K (.ref fmake_cells) = true)
    (aplaces_of : PySem.W.nsIn K mainGlobals "places_of" = some (some (.ref fplaces_of))) (lplaces_of : K.lookup fplaces_of = some ⟨ocplaces_of, odplaces_of, .func (PySem.W.fnOf "places_of" "places_of" (defArgs K05.s_places_of) (defBody K05.s_places_of) (defScope K05.s_places_of) .none kVplaces_of dcplaces_of pmplaces_of anplaces_of cdplaces_of ctplaces_of), slplaces_of⟩) (cplaces_of : PySem.W.codeIn K cdplaces_of "places_of" = true) (kplaces_of : PySem.W.keepIn K (.ref fplaces_of) = true)
    (alevels : PySem.W.nsIn K mainGlobals "levels" = some (some (.ref flevels))) (llevels : K.lookup flevels = some ⟨oclevels, odlevels, .func (PySem.W.fnOf "levels" "levels" (defArgs K05.s_levels) (defBody K05.s_levels) (defScope K05.s_levels) .none kVlevels dclevels pmlevels anlevels cdlevels ctlevels), sllevels⟩) (clevels : PySem.W.codeIn K cdlevels "levels" = true) (klevels : PySem.W.keepIn K (.ref flevels) = true)
    (asize_of : PySem.W.nsIn K mainGlobals "size_of" = some (some (.ref fsize_of))) (lsize_of : K.lookup fsize_of = some ⟨ocsize_of, odsize_of, .func (PySem.W.fnOf "size_of" "size_of" (defArgs K05.s_size_of) (defBody K05.s_size_of) (defScope K05.s_size_of) .none kVsize_of dcsize_of pmsize_of ansize_of cdsize_of ctsize_of), slsize_of⟩) (csize_of : PySem.W.codeIn K cdsize_of "size_of" = true) (ksize_of : PySem.W.keepIn K (.ref fsize_of) = true)
    (asubterms : PySem.W.nsIn K mainGlobals "subterms" = some (some (.ref fsubterms))) (lsubterms : K.lookup fsubterms = some ⟨ocsubterms, odsubterms, .func (PySem.W.fnOf "subterms" "subterms" (defArgs K05.s_subterms) (defBody K05.s_subterms) (defScope K05.s_subterms) .none kVsubterms dcsubterms pmsubterms ansubterms cdsubterms ctsubterms), slsubterms⟩) (csubterms : PySem.W.codeIn K cdsubterms "subterms" = true) (ksubterms : PySem.W.keepIn K (.ref fsubterms) = true)
    (astands_in : PySem.W.nsIn K mainGlobals "stands_in" = some (some (.ref fstands_in))) (lstands_in : K.lookup fstands_in = some ⟨ocstands_in, odstands_in, .func (PySem.W.fnOf "stands_in" "stands_in" (defArgs K05.s_stands_in) (defBody K05.s_stands_in) (defScope K05.s_stands_in) .none kVstands_in dcstands_in pmstands_in anstands_in cdstands_in ctstands_in), slstands_in⟩) (cstands_in : PySem.W.codeIn K cdstands_in "stands_in" = true) (kstands_in : PySem.W.keepIn K (.ref fstands_in) = true)
    (areplaced : PySem.W.nsIn K mainGlobals "replaced" = some (some (.ref freplaced))) (lreplaced : K.lookup freplaced = some ⟨ocreplaced, odreplaced, .func (PySem.W.fnOf "replaced" "replaced" (defArgs K05.s_replaced) (defBody K05.s_replaced) (defScope K05.s_replaced) .none kVreplaced dcreplaced pmreplaced anreplaced cdreplaced ctreplaced), slreplaced⟩) (creplaced : PySem.W.codeIn K cdreplaced "replaced" = true) (kreplaced : PySem.W.keepIn K (.ref freplaced) = true)
    (arenamed : PySem.W.nsIn K mainGlobals "renamed" = some (some (.ref frenamed))) (lrenamed : K.lookup frenamed = some ⟨ocrenamed, odrenamed, .func (PySem.W.fnOf "renamed" "renamed" (defArgs K05.s_renamed) (defBody K05.s_renamed) (defScope K05.s_renamed) .none kVrenamed dcrenamed pmrenamed anrenamed cdrenamed ctrenamed), slrenamed⟩) (crenamed : PySem.W.codeIn K cdrenamed "renamed" = true) (krenamed : PySem.W.keepIn K (.ref frenamed) = true)
    (arenamed_by : PySem.W.nsIn K mainGlobals "renamed_by" = some (some (.ref frenamed_by))) (lrenamed_by : K.lookup frenamed_by = some ⟨ocrenamed_by, odrenamed_by, .func (PySem.W.fnOf "renamed_by" "renamed_by" (defArgs K05.s_renamed_by) (defBody K05.s_renamed_by) (defScope K05.s_renamed_by) .none kVrenamed_by dcrenamed_by pmrenamed_by anrenamed_by cdrenamed_by ctrenamed_by), slrenamed_by⟩) (crenamed_by : PySem.W.codeIn K cdrenamed_by "renamed_by" = true) (krenamed_by : PySem.W.keepIn K (.ref frenamed_by) = true)
    (atext_of : PySem.W.nsIn K mainGlobals "text_of" = some (some (.ref ftext_of))) (ltext_of : K.lookup ftext_of = some ⟨octext_of, odtext_of, .func (PySem.W.fnOf "text_of" "text_of" (defArgs K05.s_text_of) (defBody K05.s_text_of) (defScope K05.s_text_of) .none kVtext_of dctext_of pmtext_of antext_of cdtext_of cttext_of), sltext_of⟩) (ctext_of : PySem.W.codeIn K cdtext_of "text_of" = true) (ktext_of : PySem.W.keepIn K (.ref ftext_of) = true)
    (acheck_term : PySem.W.nsIn K mainGlobals "check_term" = some (some (.ref fcheck_term))) (lcheck_term : K.lookup fcheck_term = some ⟨occheck_term, odcheck_term, .func (PySem.W.fnOf "check_term" "check_term" (defArgs K05.s_check_term) (defBody K05.s_check_term) (defScope K05.s_check_term) .none kVcheck_term dccheck_term pmcheck_term ancheck_term cdcheck_term ctcheck_term), slcheck_term⟩) (ccheck_term : PySem.W.codeIn K cdcheck_term "check_term" = true) (kcheck_term : PySem.W.keepIn K (.ref fcheck_term) = true)
    (acheck_renaming : PySem.W.nsIn K mainGlobals "check_renaming" = some (some (.ref fcheck_renaming))) (lcheck_renaming : K.lookup fcheck_renaming = some ⟨occheck_renaming, odcheck_renaming, .func (PySem.W.fnOf "check_renaming" "check_renaming" (defArgs K05.s_check_renaming) (defBody K05.s_check_renaming) (defScope K05.s_check_renaming) .none kVcheck_renaming dccheck_renaming pmcheck_renaming ancheck_renaming cdcheck_renaming ctcheck_renaming), slcheck_renaming⟩) (ccheck_renaming : PySem.W.codeIn K cdcheck_renaming "check_renaming" = true) (kcheck_renaming : PySem.W.keepIn K (.ref fcheck_renaming) = true)
    (ajoint_places : PySem.W.nsIn K mainGlobals "joint_places" = some (some (.ref fjoint_places))) (ljoint_places : K.lookup fjoint_places = some ⟨ocjoint_places, odjoint_places, .func (PySem.W.fnOf "joint_places" "joint_places" (defArgs K05.s_joint_places) (defBody K05.s_joint_places) (defScope K05.s_joint_places) .none kVjoint_places dcjoint_places pmjoint_places anjoint_places cdjoint_places ctjoint_places), sljoint_places⟩) (cjoint_places : PySem.W.codeIn K cdjoint_places "joint_places" = true) (kjoint_places : PySem.W.keepIn K (.ref fjoint_places) = true)
    (ahas_form : PySem.W.nsIn K mainGlobals "has_form" = some (some (.ref fhas_form))) (lhas_form : K.lookup fhas_form = some ⟨ochas_form, odhas_form, .func (PySem.W.fnOf "has_form" "has_form" (defArgs K05.s_has_form) (defBody K05.s_has_form) (defScope K05.s_has_form) .none kVhas_form dchas_form pmhas_form anhas_form cdhas_form cthas_form), slhas_form⟩) (chas_form : PySem.W.codeIn K cdhas_form "has_form" = true) (khas_form : PySem.W.keepIn K (.ref fhas_form) = true)
    (aby_name : PySem.W.nsIn K mainGlobals "by_name" = some (some (.ref fby_name))) (lby_name : K.lookup fby_name = some ⟨ocby_name, odby_name, .func (PySem.W.fnOf "by_name" "by_name" (defArgs K05.s_by_name) (defBody K05.s_by_name) (defScope K05.s_by_name) .none kVby_name dcby_name pmby_name anby_name cdby_name ctby_name), slby_name⟩) (cby_name : PySem.W.codeIn K cdby_name "by_name" = true) (kby_name : PySem.W.keepIn K (.ref fby_name) = true)
    (a_law_dice : PySem.W.nsIn K mainGlobals "_law_dice" = some (some (.ref f_law_dice))) (l_law_dice : K.lookup f_law_dice = some ⟨oc_law_dice, od_law_dice, .func (PySem.W.fnOf "_law_dice" "_law_dice" (defArgs K05.s__law_dice) (defBody K05.s__law_dice) (defScope K05.s__law_dice) .none kV_law_dice dc_law_dice pm_law_dice an_law_dice cd_law_dice ct_law_dice), sl_law_dice⟩) (c_law_dice : PySem.W.codeIn K cd_law_dice "_law_dice" = true) (k_law_dice : PySem.W.keepIn K (.ref f_law_dice) = true)
    (a_law_roll : PySem.W.nsIn K mainGlobals "_law_roll" = some (some (.ref f_law_roll))) (l_law_roll : K.lookup f_law_roll = some ⟨oc_law_roll, od_law_roll, .func (PySem.W.fnOf "_law_roll" "_law_roll" (defArgs K05.s__law_roll) (defBody K05.s__law_roll) (defScope K05.s__law_roll) .none kV_law_roll dc_law_roll pm_law_roll an_law_roll cd_law_roll ct_law_roll), sl_law_roll⟩) (c_law_roll : PySem.W.codeIn K cd_law_roll "_law_roll" = true) (k_law_roll : PySem.W.keepIn K (.ref f_law_roll) = true)
    (a_law_pick : PySem.W.nsIn K mainGlobals "_law_pick" = some (some (.ref f_law_pick))) (l_law_pick : K.lookup f_law_pick = some ⟨oc_law_pick, od_law_pick, .func (PySem.W.fnOf "_law_pick" "_law_pick" (defArgs K05.s__law_pick) (defBody K05.s__law_pick) (defScope K05.s__law_pick) .none kV_law_pick dc_law_pick pm_law_pick an_law_pick cd_law_pick ct_law_pick), sl_law_pick⟩) (c_law_pick : PySem.W.codeIn K cd_law_pick "_law_pick" = true) (k_law_pick : PySem.W.keepIn K (.ref f_law_pick) = true)
    (a_law_mixed : PySem.W.nsIn K mainGlobals "_law_mixed" = some (some (.ref f_law_mixed))) (l_law_mixed : K.lookup f_law_mixed = some ⟨oc_law_mixed, od_law_mixed, .func (PySem.W.fnOf "_law_mixed" "_law_mixed" (defArgs K05.s__law_mixed) (defBody K05.s__law_mixed) (defScope K05.s__law_mixed) .none kV_law_mixed dc_law_mixed pm_law_mixed an_law_mixed cd_law_mixed ct_law_mixed), sl_law_mixed⟩) (c_law_mixed : PySem.W.codeIn K cd_law_mixed "_law_mixed" = true) (k_law_mixed : PySem.W.keepIn K (.ref f_law_mixed) = true)
    (a_law_names : PySem.W.nsIn K mainGlobals "_law_names" = some (some (.ref f_law_names))) (l_law_names : K.lookup f_law_names = some ⟨oc_law_names, od_law_names, .func (PySem.W.fnOf "_law_names" "_law_names" (defArgs K05.s__law_names) (defBody K05.s__law_names) (defScope K05.s__law_names) .none kV_law_names dc_law_names pm_law_names an_law_names cd_law_names ct_law_names), sl_law_names⟩) (c_law_names : PySem.W.codeIn K cd_law_names "_law_names" = true) (k_law_names : PySem.W.keepIn K (.ref f_law_names) = true)
    (a_law_term : PySem.W.nsIn K mainGlobals "_law_term" = some (some (.ref f_law_term))) (l_law_term : K.lookup f_law_term = some ⟨oc_law_term, od_law_term, .func (PySem.W.fnOf "_law_term" "_law_term" (defArgs K05.s__law_term) (defBody K05.s__law_term) (defScope K05.s__law_term) .none kV_law_term dc_law_term pm_law_term an_law_term cd_law_term ct_law_term), sl_law_term⟩) (c_law_term : PySem.W.codeIn K cd_law_term "_law_term" = true) (k_law_term : PySem.W.keepIn K (.ref f_law_term) = true)
    (a_law_odd : PySem.W.nsIn K mainGlobals "_law_odd" = some (some (.ref f_law_odd))) (l_law_odd : K.lookup f_law_odd = some ⟨oc_law_odd, od_law_odd, .func (PySem.W.fnOf "_law_odd" "_law_odd" (defArgs K05.s__law_odd) (defBody K05.s__law_odd) (defScope K05.s__law_odd) .none kV_law_odd dc_law_odd pm_law_odd an_law_odd cd_law_odd ct_law_odd), sl_law_odd⟩) (c_law_odd : PySem.W.codeIn K cd_law_odd "_law_odd" = true) (k_law_odd : PySem.W.keepIn K (.ref f_law_odd) = true)
    (a_law_odd_renaming : PySem.W.nsIn K mainGlobals "_law_odd_renaming" = some (some (.ref f_law_odd_renaming))) (l_law_odd_renaming : K.lookup f_law_odd_renaming = some ⟨oc_law_odd_renaming, od_law_odd_renaming, .func (PySem.W.fnOf "_law_odd_renaming" "_law_odd_renaming" (defArgs K05.s__law_odd_renaming) (defBody K05.s__law_odd_renaming) (defScope K05.s__law_odd_renaming) .none kV_law_odd_renaming dc_law_odd_renaming pm_law_odd_renaming an_law_odd_renaming cd_law_odd_renaming ct_law_odd_renaming), sl_law_odd_renaming⟩) (c_law_odd_renaming : PySem.W.codeIn K cd_law_odd_renaming "_law_odd_renaming" = true) (k_law_odd_renaming : PySem.W.keepIn K (.ref f_law_odd_renaming) = true)
    (a_law_raised : PySem.W.nsIn K mainGlobals "_law_raised" = some (some (.ref f_law_raised))) (l_law_raised : K.lookup f_law_raised = some ⟨oc_law_raised, od_law_raised, .func (PySem.W.fnOf "_law_raised" "_law_raised" (defArgs K05.s__law_raised) (defBody K05.s__law_raised) (defScope K05.s__law_raised) .none kV_law_raised dc_law_raised pm_law_raised an_law_raised cd_law_raised ct_law_raised), sl_law_raised⟩) (c_law_raised : PySem.W.codeIn K cd_law_raised "_law_raised" = true) (k_law_raised : PySem.W.keepIn K (.ref f_law_raised) = true)
    (a_law_made_right : PySem.W.nsIn K mainGlobals "_law_made_right" = some (some (.ref f_law_made_right))) (l_law_made_right : K.lookup f_law_made_right = some ⟨oc_law_made_right, od_law_made_right, .func (PySem.W.fnOf "_law_made_right" "_law_made_right" (defArgs K05.s__law_made_right) (defBody K05.s__law_made_right) (defScope K05.s__law_made_right) .none kV_law_made_right dc_law_made_right pm_law_made_right an_law_made_right cd_law_made_right ct_law_made_right), sl_law_made_right⟩) (c_law_made_right : PySem.W.codeIn K cd_law_made_right "_law_made_right" = true) (k_law_made_right : PySem.W.keepIn K (.ref f_law_made_right) = true)
    (a_law_asked_right : PySem.W.nsIn K mainGlobals "_law_asked_right" = some (some (.ref f_law_asked_right))) (l_law_asked_right : K.lookup f_law_asked_right = some ⟨oc_law_asked_right, od_law_asked_right, .func (PySem.W.fnOf "_law_asked_right" "_law_asked_right" (defArgs K05.s__law_asked_right) (defBody K05.s__law_asked_right) (defScope K05.s__law_asked_right) .none kV_law_asked_right dc_law_asked_right pm_law_asked_right an_law_asked_right cd_law_asked_right ct_law_asked_right), sl_law_asked_right⟩) (c_law_asked_right : PySem.W.codeIn K cd_law_asked_right "_law_asked_right" = true) (k_law_asked_right : PySem.W.keepIn K (.ref f_law_asked_right) = true)
    (a_law_changed_right : PySem.W.nsIn K mainGlobals "_law_changed_right" = some (some (.ref f_law_changed_right))) (l_law_changed_right : K.lookup f_law_changed_right = some ⟨oc_law_changed_right, od_law_changed_right, .func (PySem.W.fnOf "_law_changed_right" "_law_changed_right" (defArgs K05.s__law_changed_right) (defBody K05.s__law_changed_right) (defScope K05.s__law_changed_right) .none kV_law_changed_right dc_law_changed_right pm_law_changed_right an_law_changed_right cd_law_changed_right ct_law_changed_right), sl_law_changed_right⟩) (c_law_changed_right : PySem.W.codeIn K cd_law_changed_right "_law_changed_right" = true) (k_law_changed_right : PySem.W.keepIn K (.ref f_law_changed_right) = true)
    (alaw : PySem.W.nsIn K mainGlobals "law" = some (some (.ref flaw))) (llaw : K.lookup flaw = some ⟨oclaw, odlaw, .func (PySem.W.fnOf "law" "law" (defArgs K05.s_law) (defBody K05.s_law) (defScope K05.s_law) .none kVlaw dclaw pmlaw anlaw cdlaw ctlaw), sllaw⟩) (claw : PySem.W.codeIn K cdlaw "law" = true) (klaw : PySem.W.keepIn K (.ref flaw) = true)
    (zabs : PySem.W.nsIn K mainGlobals "abs" = some none)
    (zall : PySem.W.nsIn K mainGlobals "all" = some none)
    (zdict : PySem.W.nsIn K mainGlobals "dict" = some none)
    (zenumerate : PySem.W.nsIn K mainGlobals "enumerate" = some none)
    (zint : PySem.W.nsIn K mainGlobals "int" = some none)
    (zisinstance : PySem.W.nsIn K mainGlobals "isinstance" = some none)
    (zlen : PySem.W.nsIn K mainGlobals "len" = some none)
    (zlist : PySem.W.nsIn K mainGlobals "list" = some none)
    (zmax : PySem.W.nsIn K mainGlobals "max" = some none)
    (zmin : PySem.W.nsIn K mainGlobals "min" = some none)
    (zrange : PySem.W.nsIn K mainGlobals "range" = some none)
    (zrepr : PySem.W.nsIn K mainGlobals "repr" = some none)
    (zset : PySem.W.nsIn K mainGlobals "set" = some none)
    (zsorted : PySem.W.nsIn K mainGlobals "sorted" = some none)
    (zstr : PySem.W.nsIn K mainGlobals "str" = some none)
    (zsum : PySem.W.nsIn K mainGlobals "sum" = some none)
    (ztuple : PySem.W.nsIn K mainGlobals "tuple" = some none)
    (zzip : PySem.W.nsIn K mainGlobals "zip" = some none)
    {CInvalidName : Addr} (nInvalidName : PySem.W.nsIn K mainGlobals "InvalidName" = some (some (.ref CInvalidName))) (xInvalidName : PySem.W.excIn K CInvalidName [.type "ValueError", .type "Exception", .type "BaseException", .type "object"] "ValueError.__new__" = true) (kInvalidName : PySem.W.keepIn K (.ref CInvalidName) = true) (bInvalidName : PySem.W.subIn K (.ref CInvalidName) (.type "BaseException") = some true) (tInvalidName : PySem.W.typeIn K (.ref CInvalidName) = some (.type "type")) (iInvalidName : PySem.W.isClsIn K CInvalidName = true) (sInvalidName : PySem.W.subIn K (.ref CInvalidName) (.ref CInvalidName) = some true)
    {CInvalidTerm : Addr} (nInvalidTerm : PySem.W.nsIn K mainGlobals "InvalidTerm" = some (some (.ref CInvalidTerm))) (xInvalidTerm : PySem.W.excIn K CInvalidTerm [.type "ValueError", .type "Exception", .type "BaseException", .type "object"] "ValueError.__new__" = true) (kInvalidTerm : PySem.W.keepIn K (.ref CInvalidTerm) = true) (bInvalidTerm : PySem.W.subIn K (.ref CInvalidTerm) (.type "BaseException") = some true) (tInvalidTerm : PySem.W.typeIn K (.ref CInvalidTerm) = some (.type "type")) (iInvalidTerm : PySem.W.isClsIn K CInvalidTerm = true) (sInvalidTerm : PySem.W.subIn K (.ref CInvalidTerm) (.ref CInvalidTerm) = some true)
    {CInvalidOperation : Addr} (nInvalidOperation : PySem.W.nsIn K mainGlobals "InvalidOperation" = some (some (.ref CInvalidOperation))) (xInvalidOperation : PySem.W.excIn K CInvalidOperation [.type "ValueError", .type "Exception", .type "BaseException", .type "object"] "ValueError.__new__" = true) (kInvalidOperation : PySem.W.keepIn K (.ref CInvalidOperation) = true) (bInvalidOperation : PySem.W.subIn K (.ref CInvalidOperation) (.type "BaseException") = some true) (tInvalidOperation : PySem.W.typeIn K (.ref CInvalidOperation) = some (.type "type")) (iInvalidOperation : PySem.W.isClsIn K CInvalidOperation = true) (sInvalidOperation : PySem.W.subIn K (.ref CInvalidOperation) (.ref CInvalidOperation) = some true)
    {CPartError : Addr} (nPartError : PySem.W.nsIn K mainGlobals "PartError" = some (some (.ref CPartError)))
    {CInvalidFact : Addr} (nInvalidFact : PySem.W.nsIn K mainGlobals "InvalidFact" = some (some (.ref CInvalidFact)))
    {CInvalidBook : Addr} (nInvalidBook : PySem.W.nsIn K mainGlobals "InvalidBook" = some (some (.ref CInvalidBook)))
    {CInvalidWorld : Addr} (nInvalidWorld : PySem.W.nsIn K mainGlobals "InvalidWorld" = some (some (.ref CInvalidWorld)))
    {CInvalidCode : Addr} (nInvalidCode : PySem.W.nsIn K mainGlobals "InvalidCode" = some (some (.ref CInvalidCode)))
    {CInvalidEdit : Addr} (nInvalidEdit : PySem.W.nsIn K mainGlobals "InvalidEdit" = some (some (.ref CInvalidEdit)))
    {CParseError : Addr} (nParseError : PySem.W.nsIn K mainGlobals "ParseError" = some (some (.ref CParseError)))
    {CInvalidCommand : Addr} (nInvalidCommand : PySem.W.nsIn K mainGlobals "InvalidCommand" = some (some (.ref CInvalidCommand)))
    {tFIRST_WIDTH : Tok} (zFIRST_WIDTH : PySem.W.nsIn K mainGlobals "FIRST_WIDTH" = some (some (.int 16 tFIRST_WIDTH)))
    {tMANY_PARTS : Tok} (zMANY_PARTS : PySem.W.nsIn K mainGlobals "MANY_PARTS" = some (some (.int 100000 tMANY_PARTS)))
    {tMAX_PLACES : Tok} (zMAX_PLACES : PySem.W.nsIn K mainGlobals "MAX_PLACES" = some (some (.int 3 tMAX_PLACES)))
    {tLONGEST_NAME : Tok} (zLONGEST_NAME : PySem.W.nsIn K mainGlobals "LONGEST_NAME" = some (some (.int 8 tLONGEST_NAME)))
    : ∃ T : K05.Tx K mg, T.alaw = flaw ∧ T.dlaw = PySem.W.fnOf "law" "law" (defArgs K05.s_law) (defBody K05.s_law) (defScope K05.s_law) .none kVlaw dclaw pmlaw anlaw cdlaw ctlaw ∧ T.d_law_made_right.code = cd_law_made_right ∧ T.d_law_asked_right.code = cd_law_asked_right ∧ T.d_law_changed_right.code = cd_law_changed_right ∧ T.CInvalidName = CInvalidName ∧ T.CInvalidTerm = CInvalidTerm ∧ T.CInvalidOperation = CInvalidOperation ∧ T.CPartError = CPartError ∧ K05.cls T = [CInvalidName, CInvalidTerm, CInvalidOperation, CInvalidFact, CInvalidBook, CInvalidWorld, CInvalidCode, CInvalidEdit, CParseError, CInvalidCommand] := by
  have Fpreorder := fun_mk (st := K05.s_preorder) lpreorder cpreorder kpreorder
  have Bpreorder := Fpreorder.binds (ps := ["terms"]) fun _ _ _ _ _ _ us hl => match us, hl with | [_], _ => rfl
  have Fwritten := fun_mk (st := K05.s_written) lwritten cwritten kwritten
  have Bwritten := Fwritten.binds (ps := ["term"]) fun _ _ _ _ _ _ us hl => match us, hl with | [_], _ => rfl
  have Fnumbered := fun_mk (st := K05.s_numbered) lnumbered cnumbered knumbered
  have Bnumbered := Fnumbered.binds (ps := ["parts"]) fun _ _ _ _ _ _ us hl => match us, hl with | [_], _ => rfl
  have Fnumbered_rows := fun_mk (st := K05.s_numbered_rows) lnumbered_rows cnumbered_rows knumbered_rows
  have Bnumbered_rows := Fnumbered_rows.binds (ps := ["parts"]) fun _ _ _ _ _ _ us hl => match us, hl with | [_], _ => rfl
  have Fsizes_of := fun_mk (st := K05.s_sizes_of) lsizes_of csizes_of ksizes_of
  have Bsizes_of := Fsizes_of.binds (ps := ["rows"]) fun _ _ _ _ _ _ us hl => match us, hl with | [_], _ => rfl
  have Foccurs := fun_mk (st := K05.s_occurs) loccurs coccurs koccurs
  have Boccurs := Foccurs.binds (ps := ["term", "other"]) fun _ _ _ _ _ _ us hl => match us, hl with | [_, _], _ => rfl
  have Fput_in := fun_mk (st := K05.s_put_in) lput_in cput_in kput_in
  have Bput_in := Fput_in.binds (ps := ["term", "old", "new"]) fun _ _ _ _ _ _ us hl => match us, hl with | [_, _, _], _ => rfl
  have Fwith_names := fun_mk (st := K05.s_with_names) lwith_names cwith_names kwith_names
  have Bwith_names := Fwith_names.binds (ps := ["term", "names"]) fun _ _ _ _ _ _ us hl => match us, hl with | [_, _], _ => rfl
  have Fascending := fun_mk (st := K05.s_ascending) lascending cascending kascending
  have Bascending := Fascending.binds (ps := ["terms"]) fun _ _ _ _ _ _ us hl => match us, hl with | [_], _ => rfl
  have Forder_of := fun_mk (st := K05.s_order_of) lorder_of corder_of korder_of
  have Border_of := Forder_of.binds (ps := ["rows"]) fun _ _ _ _ _ _ us hl => match us, hl with | [_], _ => rfl
  have Forder_by_ranks := fun_mk (st := K05.s_order_by_ranks) lorder_by_ranks corder_by_ranks korder_by_ranks
  have Border_by_ranks := Forder_by_ranks.binds (ps := ["rows"]) fun _ _ _ _ _ _ us hl => match us, hl with | [_], _ => rfl
  have Franked := fun_mk (st := K05.s_ranked) lranked cranked kranked
  have Branked := Franked.binds (ps := ["names"]) fun _ _ _ _ _ _ us hl => match us, hl with | [_], _ => rfl
  have Fdense := fun_mk (st := K05.s_dense) ldense cdense kdense
  have Bdense := Fdense.binds (ps := ["keys"]) fun _ _ _ _ _ _ us hl => match us, hl with | [_], _ => rfl
  have Fis_name := fun_mk (st := K05.s_is_name) lis_name cis_name kis_name
  have Bis_name := Fis_name.binds (ps := ["value"]) fun _ _ _ _ _ _ us hl => match us, hl with | [_], _ => rfl
  have Fis_term := fun_mk (st := K05.s_is_term) lis_term cis_term kis_term
  have Bis_term := Fis_term.binds (ps := ["value"]) fun _ _ _ _ _ _ us hl => match us, hl with | [_], _ => rfl
  have Fmake_term := fun_mk (st := K05.s_make_term) lmake_term cmake_term kmake_term
  have Fmake_cells := fun_mk (st := K05.s_make_cells) lmake_cells cmake_cells kmake_cells
  have Fplaces_of := fun_mk (st := K05.s_places_of) lplaces_of cplaces_of kplaces_of
  have Bplaces_of := Fplaces_of.binds (ps := ["term"]) fun _ _ _ _ _ _ us hl => match us, hl with | [_], _ => rfl
  have Flevels := fun_mk (st := K05.s_levels) llevels clevels klevels
  have Blevels := Flevels.binds (ps := ["term"]) fun _ _ _ _ _ _ us hl => match us, hl with | [_], _ => rfl
  have Fsize_of := fun_mk (st := K05.s_size_of) lsize_of csize_of ksize_of
  have Bsize_of := Fsize_of.binds (ps := ["term"]) fun _ _ _ _ _ _ us hl => match us, hl with | [_], _ => rfl
  have Fsubterms := fun_mk (st := K05.s_subterms) lsubterms csubterms ksubterms
  have Bsubterms := Fsubterms.binds (ps := ["term"]) fun _ _ _ _ _ _ us hl => match us, hl with | [_], _ => rfl
  have Fstands_in := fun_mk (st := K05.s_stands_in) lstands_in cstands_in kstands_in
  have Bstands_in := Fstands_in.binds (ps := ["term", "other"]) fun _ _ _ _ _ _ us hl => match us, hl with | [_, _], _ => rfl
  have Freplaced := fun_mk (st := K05.s_replaced) lreplaced creplaced kreplaced
  have Breplaced := Freplaced.binds (ps := ["term", "old", "new"]) fun _ _ _ _ _ _ us hl => match us, hl with | [_, _, _], _ => rfl
  have Frenamed := fun_mk (st := K05.s_renamed) lrenamed crenamed krenamed
  have Frenamed_by := fun_mk (st := K05.s_renamed_by) lrenamed_by crenamed_by krenamed_by
  have Brenamed_by := Frenamed_by.binds (ps := ["term", "names"]) fun _ _ _ _ _ _ us hl => match us, hl with | [_, _], _ => rfl
  have Ftext_of := fun_mk (st := K05.s_text_of) ltext_of ctext_of ktext_of
  have Btext_of := Ftext_of.binds (ps := ["term"]) fun _ _ _ _ _ _ us hl => match us, hl with | [_], _ => rfl
  have Fcheck_term := fun_mk (st := K05.s_check_term) lcheck_term ccheck_term kcheck_term
  have Bcheck_term := Fcheck_term.binds (ps := ["value"]) fun _ _ _ _ _ _ us hl => match us, hl with | [_], _ => rfl
  have Fcheck_renaming := fun_mk (st := K05.s_check_renaming) lcheck_renaming ccheck_renaming kcheck_renaming
  have Bcheck_renaming := Fcheck_renaming.binds (ps := ["places", "names"]) fun _ _ _ _ _ _ us hl => match us, hl with | [_, _], _ => rfl
  have Fjoint_places := fun_mk (st := K05.s_joint_places) ljoint_places cjoint_places kjoint_places
  have Bjoint_places := Fjoint_places.binds (ps := ["values"]) fun _ _ _ _ _ _ us hl => match us, hl with | [_], _ => rfl
  have Fhas_form := fun_mk (st := K05.s_has_form) lhas_form chas_form khas_form
  have Bhas_form := Fhas_form.binds (ps := ["value"]) fun _ _ _ _ _ _ us hl => match us, hl with | [_], _ => rfl
  have Fby_name := fun_mk (st := K05.s_by_name) lby_name cby_name kby_name
  have Bby_name := Fby_name.binds (ps := ["places"]) fun _ _ _ _ _ _ us hl => match us, hl with | [_], _ => rfl
  have F_law_dice := fun_mk (st := K05.s__law_dice) l_law_dice c_law_dice k_law_dice
  have B_law_dice := F_law_dice.binds (ps := ["script", "spot"]) fun _ _ _ _ _ _ us hl => match us, hl with | [_, _], _ => rfl
  have F_law_roll := fun_mk (st := K05.s__law_roll) l_law_roll c_law_roll k_law_roll
  have B_law_roll := F_law_roll.binds (ps := ["dice", "many"]) fun _ _ _ _ _ _ us hl => match us, hl with | [_, _], _ => rfl
  have F_law_pick := fun_mk (st := K05.s__law_pick) l_law_pick c_law_pick k_law_pick
  have B_law_pick := F_law_pick.binds (ps := ["dice", "items"]) fun _ _ _ _ _ _ us hl => match us, hl with | [_, _], _ => rfl
  have F_law_mixed := fun_mk (st := K05.s__law_mixed) l_law_mixed c_law_mixed k_law_mixed
  have B_law_mixed := F_law_mixed.binds (ps := ["dice", "items"]) fun _ _ _ _ _ _ us hl => match us, hl with | [_, _], _ => rfl
  have F_law_names := fun_mk (st := K05.s__law_names) l_law_names c_law_names k_law_names
  have B_law_names := F_law_names.binds (ps := ["dice", "few"]) fun _ _ _ _ _ _ us hl => match us, hl with | [_, _], _ => rfl
  have F_law_term := fun_mk (st := K05.s__law_term) l_law_term c_law_term k_law_term
  have B_law_term := F_law_term.binds (ps := ["dice", "names", "deep"]) fun _ _ _ _ _ _ us hl => match us, hl with | [_, _, _], _ => rfl
  have F_law_odd := fun_mk (st := K05.s__law_odd) l_law_odd c_law_odd k_law_odd
  have B_law_odd := F_law_odd.binds (ps := ["dice"]) fun _ _ _ _ _ _ us hl => match us, hl with | [_], _ => rfl
  have F_law_odd_renaming := fun_mk (st := K05.s__law_odd_renaming) l_law_odd_renaming c_law_odd_renaming k_law_odd_renaming
  have B_law_odd_renaming := F_law_odd_renaming.binds (ps := ["dice"]) fun _ _ _ _ _ _ us hl => match us, hl with | [_], _ => rfl
  have F_law_raised := fun_mk (st := K05.s__law_raised) l_law_raised c_law_raised k_law_raised
  have B_law_raised := F_law_raised.binds (ps := ["call"]) fun _ _ _ _ _ _ us hl => match us, hl with | [_], _ => rfl
  have F_law_made_right := fun_mk (st := K05.s__law_made_right) l_law_made_right c_law_made_right k_law_made_right
  have B_law_made_right := F_law_made_right.binds (ps := ["dice", "term"]) fun _ _ _ _ _ _ us hl => match us, hl with | [_, _], _ => rfl
  have F_law_asked_right := fun_mk (st := K05.s__law_asked_right) l_law_asked_right c_law_asked_right k_law_asked_right
  have B_law_asked_right := F_law_asked_right.binds (ps := ["dice", "term"]) fun _ _ _ _ _ _ us hl => match us, hl with | [_, _], _ => rfl
  have F_law_changed_right := fun_mk (st := K05.s__law_changed_right) l_law_changed_right c_law_changed_right k_law_changed_right
  have B_law_changed_right := F_law_changed_right.binds (ps := ["dice", "term"]) fun _ _ _ _ _ _ us hl => match us, hl with | [_, _], _ => rfl
  have Flaw := fun_mk (st := K05.s_law) llaw claw klaw
  have Blaw := Flaw.binds (ps := ["script"]) fun _ _ _ _ _ _ us hl => match us, hl with | [_], _ => rfl
  exact ⟨{ b_abs := PySem.W.mg_none_of X G zabs, b_all := PySem.W.mg_none_of X G zall, b_dict := PySem.W.mg_none_of X G zdict, b_enumerate := PySem.W.mg_none_of X G zenumerate, b_int := PySem.W.mg_none_of X G zint, b_isinstance := PySem.W.mg_none_of X G zisinstance, b_len := PySem.W.mg_none_of X G zlen, b_list := PySem.W.mg_none_of X G zlist, b_max := PySem.W.mg_none_of X G zmax, b_min := PySem.W.mg_none_of X G zmin, b_range := PySem.W.mg_none_of X G zrange, b_repr := PySem.W.mg_none_of X G zrepr, b_set := PySem.W.mg_none_of X G zset, b_sorted := PySem.W.mg_none_of X G zsorted, b_str := PySem.W.mg_none_of X G zstr, b_sum := PySem.W.mg_none_of X G zsum, b_tuple := PySem.W.mg_none_of X G ztuple, b_zip := PySem.W.mg_none_of X G zzip, CInvalidName := CInvalidName, gInvalidName := PySem.W.mg_of X G nInvalidName, xInvalidName := xInvalidName, kInvalidName := kInvalidName, bInvalidName := bInvalidName, tInvalidName := tInvalidName, eInvalidName := Kx.exm_self bInvalidName iInvalidName tInvalidName sInvalidName, CInvalidTerm := CInvalidTerm, gInvalidTerm := PySem.W.mg_of X G nInvalidTerm, xInvalidTerm := xInvalidTerm, kInvalidTerm := kInvalidTerm, bInvalidTerm := bInvalidTerm, tInvalidTerm := tInvalidTerm, eInvalidTerm := Kx.exm_self bInvalidTerm iInvalidTerm tInvalidTerm sInvalidTerm, CInvalidOperation := CInvalidOperation, gInvalidOperation := PySem.W.mg_of X G nInvalidOperation, xInvalidOperation := xInvalidOperation, kInvalidOperation := kInvalidOperation, bInvalidOperation := bInvalidOperation, tInvalidOperation := tInvalidOperation, eInvalidOperation := Kx.exm_self bInvalidOperation iInvalidOperation tInvalidOperation sInvalidOperation, CPartError := CPartError, gPartError := PySem.W.mg_of X G nPartError, CInvalidFact := CInvalidFact, gInvalidFact := PySem.W.mg_of X G nInvalidFact, CInvalidBook := CInvalidBook, gInvalidBook := PySem.W.mg_of X G nInvalidBook, CInvalidWorld := CInvalidWorld, gInvalidWorld := PySem.W.mg_of X G nInvalidWorld, CInvalidCode := CInvalidCode, gInvalidCode := PySem.W.mg_of X G nInvalidCode, CInvalidEdit := CInvalidEdit, gInvalidEdit := PySem.W.mg_of X G nInvalidEdit, CParseError := CParseError, gParseError := PySem.W.mg_of X G nParseError, CInvalidCommand := CInvalidCommand, gInvalidCommand := PySem.W.mg_of X G nInvalidCommand, c_FIRST_WIDTH := ⟨_, PySem.W.mg_of X G zFIRST_WIDTH⟩, c_MANY_PARTS := ⟨_, PySem.W.mg_of X G zMANY_PARTS⟩, c_MAX_PLACES := ⟨_, PySem.W.mg_of X G zMAX_PLACES⟩, c_LONGEST_NAME := ⟨_, PySem.W.mg_of X G zLONGEST_NAME⟩, apreorder := fpreorder, dpreorder := _, fpreorder := Fpreorder, gpreorder := PySem.W.mg_of X G apreorder, npreorder := Bpreorder, awritten := fwritten, dwritten := _, fwritten := Fwritten, gwritten := PySem.W.mg_of X G awritten, nwritten := Bwritten, anumbered := fnumbered, dnumbered := _, fnumbered := Fnumbered, gnumbered := PySem.W.mg_of X G anumbered, nnumbered := Bnumbered, anumbered_rows := fnumbered_rows, dnumbered_rows := _, fnumbered_rows := Fnumbered_rows, gnumbered_rows := PySem.W.mg_of X G anumbered_rows, nnumbered_rows := Bnumbered_rows, asizes_of := fsizes_of, dsizes_of := _, fsizes_of := Fsizes_of, gsizes_of := PySem.W.mg_of X G asizes_of, nsizes_of := Bsizes_of, aoccurs := foccurs, doccurs := _, foccurs := Foccurs, goccurs := PySem.W.mg_of X G aoccurs, noccurs := Boccurs, aput_in := fput_in, dput_in := _, fput_in := Fput_in, gput_in := PySem.W.mg_of X G aput_in, nput_in := Bput_in, awith_names := fwith_names, dwith_names := _, fwith_names := Fwith_names, gwith_names := PySem.W.mg_of X G awith_names, nwith_names := Bwith_names, aascending := fascending, dascending := _, fascending := Fascending, gascending := PySem.W.mg_of X G aascending, nascending := Bascending, aorder_of := forder_of, dorder_of := _, forder_of := Forder_of, gorder_of := PySem.W.mg_of X G aorder_of, norder_of := Border_of, aorder_by_ranks := forder_by_ranks, dorder_by_ranks := _, forder_by_ranks := Forder_by_ranks, gorder_by_ranks := PySem.W.mg_of X G aorder_by_ranks, norder_by_ranks := Border_by_ranks, aranked := franked, dranked := _, franked := Franked, granked := PySem.W.mg_of X G aranked, nranked := Branked, adense := fdense, ddense := _, fdense := Fdense, gdense := PySem.W.mg_of X G adense, ndense := Bdense, ais_name := fis_name, dis_name := _, fis_name := Fis_name, gis_name := PySem.W.mg_of X G ais_name, nis_name := Bis_name, ais_term := fis_term, dis_term := _, fis_term := Fis_term, gis_term := PySem.W.mg_of X G ais_term, nis_term := Bis_term, amake_term := fmake_term, dmake_term := _, fmake_term := Fmake_term, gmake_term := PySem.W.mg_of X G amake_term, amake_cells := fmake_cells, dmake_cells := _, fmake_cells := Fmake_cells, gmake_cells := PySem.W.mg_of X G amake_cells, aplaces_of := fplaces_of, dplaces_of := _, fplaces_of := Fplaces_of, gplaces_of := PySem.W.mg_of X G aplaces_of, nplaces_of := Bplaces_of, alevels := flevels, dlevels := _, flevels := Flevels, glevels := PySem.W.mg_of X G alevels, nlevels := Blevels, asize_of := fsize_of, dsize_of := _, fsize_of := Fsize_of, gsize_of := PySem.W.mg_of X G asize_of, nsize_of := Bsize_of, asubterms := fsubterms, dsubterms := _, fsubterms := Fsubterms, gsubterms := PySem.W.mg_of X G asubterms, nsubterms := Bsubterms, astands_in := fstands_in, dstands_in := _, fstands_in := Fstands_in, gstands_in := PySem.W.mg_of X G astands_in, nstands_in := Bstands_in, areplaced := freplaced, dreplaced := _, freplaced := Freplaced, greplaced := PySem.W.mg_of X G areplaced, nreplaced := Breplaced, arenamed := frenamed, drenamed := _, frenamed := Frenamed, grenamed := PySem.W.mg_of X G arenamed, arenamed_by := frenamed_by, drenamed_by := _, frenamed_by := Frenamed_by, grenamed_by := PySem.W.mg_of X G arenamed_by, nrenamed_by := Brenamed_by, atext_of := ftext_of, dtext_of := _, ftext_of := Ftext_of, gtext_of := PySem.W.mg_of X G atext_of, ntext_of := Btext_of, acheck_term := fcheck_term, dcheck_term := _, fcheck_term := Fcheck_term, gcheck_term := PySem.W.mg_of X G acheck_term, ncheck_term := Bcheck_term, acheck_renaming := fcheck_renaming, dcheck_renaming := _, fcheck_renaming := Fcheck_renaming, gcheck_renaming := PySem.W.mg_of X G acheck_renaming, ncheck_renaming := Bcheck_renaming, ajoint_places := fjoint_places, djoint_places := _, fjoint_places := Fjoint_places, gjoint_places := PySem.W.mg_of X G ajoint_places, njoint_places := Bjoint_places, ahas_form := fhas_form, dhas_form := _, fhas_form := Fhas_form, ghas_form := PySem.W.mg_of X G ahas_form, nhas_form := Bhas_form, aby_name := fby_name, dby_name := _, fby_name := Fby_name, gby_name := PySem.W.mg_of X G aby_name, nby_name := Bby_name, a_law_dice := f_law_dice, d_law_dice := _, f_law_dice := F_law_dice, g_law_dice := PySem.W.mg_of X G a_law_dice, n_law_dice := B_law_dice, a_law_roll := f_law_roll, d_law_roll := _, f_law_roll := F_law_roll, g_law_roll := PySem.W.mg_of X G a_law_roll, n_law_roll := B_law_roll, a_law_pick := f_law_pick, d_law_pick := _, f_law_pick := F_law_pick, g_law_pick := PySem.W.mg_of X G a_law_pick, n_law_pick := B_law_pick, a_law_mixed := f_law_mixed, d_law_mixed := _, f_law_mixed := F_law_mixed, g_law_mixed := PySem.W.mg_of X G a_law_mixed, n_law_mixed := B_law_mixed, a_law_names := f_law_names, d_law_names := _, f_law_names := F_law_names, g_law_names := PySem.W.mg_of X G a_law_names, n_law_names := B_law_names, a_law_term := f_law_term, d_law_term := _, f_law_term := F_law_term, g_law_term := PySem.W.mg_of X G a_law_term, n_law_term := B_law_term, a_law_odd := f_law_odd, d_law_odd := _, f_law_odd := F_law_odd, g_law_odd := PySem.W.mg_of X G a_law_odd, n_law_odd := B_law_odd, a_law_odd_renaming := f_law_odd_renaming, d_law_odd_renaming := _, f_law_odd_renaming := F_law_odd_renaming, g_law_odd_renaming := PySem.W.mg_of X G a_law_odd_renaming, n_law_odd_renaming := B_law_odd_renaming, a_law_raised := f_law_raised, d_law_raised := _, f_law_raised := F_law_raised, g_law_raised := PySem.W.mg_of X G a_law_raised, n_law_raised := B_law_raised, a_law_made_right := f_law_made_right, d_law_made_right := _, f_law_made_right := F_law_made_right, g_law_made_right := PySem.W.mg_of X G a_law_made_right, n_law_made_right := B_law_made_right, a_law_asked_right := f_law_asked_right, d_law_asked_right := _, f_law_asked_right := F_law_asked_right, g_law_asked_right := PySem.W.mg_of X G a_law_asked_right, n_law_asked_right := B_law_asked_right, a_law_changed_right := f_law_changed_right, d_law_changed_right := _, f_law_changed_right := F_law_changed_right, g_law_changed_right := PySem.W.mg_of X G a_law_changed_right, n_law_changed_right := B_law_changed_right, alaw := flaw, dlaw := _, flaw := Flaw, glaw := PySem.W.mg_of X G alaw, nlaw := Blaw }, rfl, rfl, rfl, rfl, rfl, rfl, rfl, rfl, rfl, rfl⟩

namespace K05
open LamX
theorem ends {P : Program} {w : World} {K : PySem.W.Frag} {mg : Str → Option Value} {fa flaw : Addr} {CN CT CO CP : Addr} {cs : List Addr} {kV dc pm cd ct cd_law_made_right cd_law_asked_right cd_law_changed_right : Value} {an : Option Addr} {cM PM cA PA cC PC : Addr}
    (hT : ∃ T : Tx K mg, T.alaw = flaw ∧ T.dlaw = PySem.W.fnOf "law" "law" (defArgs s_law) (defBody s_law) (defScope s_law) .none kV dc pm an cd ct ∧ T.d_law_made_right.code = cd_law_made_right ∧ T.d_law_asked_right.code = cd_law_asked_right ∧ T.d_law_changed_right.code = cd_law_changed_right ∧ T.CInvalidName = CN ∧ T.CInvalidTerm = CT ∧ T.CInvalidOperation = CO ∧ T.CPartError = CP ∧ cls T = cs) (hmg : mg "law" = some (.ref fa))
    (hk : KindsA K CN CT CO CP cs) (eM : cd_law_made_right = .ref cM) (eA : cd_law_asked_right = .ref cA) (eC : cd_law_changed_right = .ref cC) (neMA : PM ≠ PA) (neMC : PM ≠ PC) (neAC : PA ≠ PC) :
    ∃ fd : FuncData, (∀ (s : Shared) (u : Value), BindsTo s fd ⟨[u], []⟩ [("script", u)]) ∧ ∀ base : Heap, K.In base → base.Ns mainGlobals mg → (∀ p ∈ [(cM, PM), (cA, PA), (cC, PC)], TabB base mg p.1 p.2) → FnG P w K mg base 20 fa fd ["script"] (spLaw K [(PM, qM), (PA, qA), (PC, qC)]) := by
  obtain ⟨T, e1, e2, eM', eA', eC', g0, g1, g2, g3, g4⟩ := hT
  have z := T.glaw
  rw [hmg] at z
  cases z
  exact ⟨T.dlaw, fun s u => by rw [e2]; exact .of_eq rfl, fun base _ _ tb => ok_law T ⟨(kinds_of T hk g0 g1 g2 g3 g4).1, cM, PM, cA, PA, cC, PC, eM'.trans eM, eA'.trans eA, eC'.trans eC, neMA, neMC, neAC⟩ (kinds_of T hk g0 g1 g2 g3 g4).2 (tb (cM, PM) (by simp)) (tb (cA, PA) (by simp)) (tb (cC, PC) (by simp))⟩
theorem walk {l : PySem.W.OpenLaw} {q : Program} {loose : List Str} {XP : (Str → Option Value) → Heap → Prop} {YP : World → Heap → Prop} {d : DefRec} {K : Params → PySem.W.Frag} {cM PM cA PA cC PC : Addr} (hn : l.most = some 63) (hdf : d.params.defaults = [])
    (hY : ∀ (w : World) (h : Heap), YP w h → (K w.params).In h) (hM : ∀ (w : World) (h : Heap), YP w h → Makers (K w.params) [(cM, PM), (cA, PA), (cC, PC)] h)
    (F : ∀ (w : World) (mg : Str → Option Value) (fa : Addr) (h : Heap), (K w.params).In h → h.Ns mainGlobals mg → mg d.name = some (.ref fa) →
      ∃ fd : FuncData, (∀ (s : Shared) (u : Value), BindsTo s fd ⟨[u], []⟩ [("script", u)]) ∧ ∀ base : Heap, (K w.params).In base → base.Ns mainGlobals mg → (∀ p ∈ [(cM, PM), (cA, PA), (cC, PC)], TabB base mg p.1 p.2) → FnG l.prog w (K w.params) mg base 20 fa fd ["script"] (spLaw (K w.params) [(PM, qM), (PA, qA), (PC, qC)])) :
    PySem.W.WalkO q loose XP YP l.row.toRowW d [] (fun f vs => PySem.call f vs) := by
  refine walk_ofT (n := 63) (k := 20) (x := "script") (sp := fun w => spLaw (K w.params) [(PM, qM), (PA, qA), (PC, qC)]) hn (by decide) hdf ⟨rfl, by decide, by decide⟩ hY hM F fun _ H a ns _ hH hS => ⟨a, ns, rfl, hS, fun p hp => ?_, fun _ => rfl⟩
  simp only [List.mem_cons, List.not_mem_nil, or_false] at hp
  rcases hp with rfl | rfl | rfl
  · exact TabS.nil (hH (cM, PM) (by simp))
  · exact TabS.nil (hH (cA, PA) (by simp))
  · exact TabS.nil (hH (cC, PC) (by simp))
end K05
open PySem PySem.W PyProof.Rows
set_option maxRecDepth 100000 in
set_option maxHeartbeats 0 in
theorem PySem.Challenge.cw_shownpart_k05_errors_of_terms_holds : PySem.Challenge.rw_shownpart_k05_errors_of_terms.Holds := by
  w_on; o_law; k_head; (case hw => w_witness2)
  k_fill
  refine K05.walk (l := PySem.Challenge.rw_shownpart_k05_errors_of_terms) (cM := 403) (PM := 399) (cA := 408) (PA := 406) (cC := 415) (PC := 411) rfl rfl (fun w h Y => km_in_of Y) (fun w h Y => ?hMk) ?F
  case hMk =>
    have KX := km_in_of Y
    have HT := km_tabs_of Y
    refine ⟨fun p hp => ?_, fun p hp => ?_, fun p hp => ?_⟩
    · simp only [List.mem_cons, List.not_mem_nil, or_false] at hp
      rcases hp with rfl | rfl | rfl <;> exact HT _ (by k_mem)
    · simp only [List.mem_cons, List.not_mem_nil, or_false] at hp
      rcases hp with rfl | rfl | rfl <;> kernel_rfl
    · simp only [List.mem_cons, List.not_mem_nil, or_false] at hp
      rcases hp with rfl | rfl | rfl <;> exact codeHd_of_K KX (by kernel_rfl)
  case F =>
    intro w mg fa h KX G hmg
    refine' K05.ends (K05.tx_mk KX G ?apreorder ?lpreorder ?cpreorder ?kpreorder ?awritten ?lwritten ?cwritten ?kwritten ?anumbered ?lnumbered ?cnumbered ?knumbered ?anumbered_rows ?lnumbered_rows ?cnumbered_rows ?knumbered_rows ?asizes_of ?lsizes_of ?csizes_of ?ksizes_of ?aoccurs ?loccurs ?coccurs ?koccurs ?aput_in ?lput_in ?cput_in ?kput_in ?awith_names ?lwith_names ?cwith_names ?kwith_names ?aascending ?lascending ?cascending ?kascending ?aorder_of ?lorder_of ?corder_of ?korder_of ?aorder_by_ranks ?lorder_by_ranks ?corder_by_ranks ?korder_by_ranks ?aranked ?lranked ?cranked ?kranked ?adense ?ldense ?cdense ?kdense ?ais_name ?lis_name ?cis_name ?kis_name ?ais_term ?lis_term ?cis_term ?kis_term ?amake_term ?lmake_term ?cmake_term ?kmake_term ?amake_cells ?lmake_cells ?cmake_cells ?kmake_cells ?aplaces_of ?lplaces_of ?cplaces_of ?kplaces_of ?alevels ?llevels ?clevels ?klevels ?asize_of ?lsize_of ?csize_of ?ksize_of ?asubterms ?lsubterms ?csubterms ?ksubterms ?astands_in ?lstands_in ?cstands_in ?kstands_in ?areplaced ?lreplaced ?creplaced ?kreplaced ?arenamed ?lrenamed ?crenamed ?krenamed ?arenamed_by ?lrenamed_by ?crenamed_by ?krenamed_by ?atext_of ?ltext_of ?ctext_of ?ktext_of ?acheck_term ?lcheck_term ?ccheck_term ?kcheck_term ?acheck_renaming ?lcheck_renaming ?ccheck_renaming ?kcheck_renaming ?ajoint_places ?ljoint_places ?cjoint_places ?kjoint_places ?ahas_form ?lhas_form ?chas_form ?khas_form ?aby_name ?lby_name ?cby_name ?kby_name ?a_law_dice ?l_law_dice ?c_law_dice ?k_law_dice ?a_law_roll ?l_law_roll ?c_law_roll ?k_law_roll ?a_law_pick ?l_law_pick ?c_law_pick ?k_law_pick ?a_law_mixed ?l_law_mixed ?c_law_mixed ?k_law_mixed ?a_law_names ?l_law_names ?c_law_names ?k_law_names ?a_law_term ?l_law_term ?c_law_term ?k_law_term ?a_law_odd ?l_law_odd ?c_law_odd ?k_law_odd ?a_law_odd_renaming ?l_law_odd_renaming ?c_law_odd_renaming ?k_law_odd_renaming ?a_law_raised ?l_law_raised ?c_law_raised ?k_law_raised ?a_law_made_right ?l_law_made_right ?c_law_made_right ?k_law_made_right ?a_law_asked_right ?l_law_asked_right ?c_law_asked_right ?k_law_asked_right ?a_law_changed_right ?l_law_changed_right ?c_law_changed_right ?k_law_changed_right ?alaw ?llaw ?claw ?klaw ?zabs ?zall ?zdict ?zenumerate ?zint ?zisinstance ?zlen ?zlist ?zmax ?zmin ?zrange ?zrepr ?zset ?zsorted ?zstr ?zsum ?ztuple ?zzip ?nInvalidName ?xInvalidName ?kInvalidName ?bInvalidName ?tInvalidName ?iInvalidName ?sInvalidName ?nInvalidTerm ?xInvalidTerm ?kInvalidTerm ?bInvalidTerm ?tInvalidTerm ?iInvalidTerm ?sInvalidTerm ?nInvalidOperation ?xInvalidOperation ?kInvalidOperation ?bInvalidOperation ?tInvalidOperation ?iInvalidOperation ?sInvalidOperation ?nPartError ?nInvalidFact ?nInvalidBook ?nInvalidWorld ?nInvalidCode ?nInvalidEdit ?nParseError ?nInvalidCommand ?zFIRST_WIDTH ?zMANY_PARTS ?zMAX_PLACES ?zLONGEST_NAME) hmg ?hk ?eM ?eA ?eC (by decide) (by decide) (by decide)
    (case apreorder => k_is); (case lpreorder => k_is); (case cpreorder => k_is); (case kpreorder => k_is); (case awritten => k_is); (case lwritten => k_is); (case cwritten => k_is); (case kwritten => k_is)
    (case anumbered => k_is); (case lnumbered => k_is); (case cnumbered => k_is); (case knumbered => k_is); (case anumbered_rows => k_is); (case lnumbered_rows => k_is); (case cnumbered_rows => k_is); (case knumbered_rows => k_is)
    (case asizes_of => k_is); (case lsizes_of => k_is); (case csizes_of => k_is); (case ksizes_of => k_is); (case aoccurs => k_is); (case loccurs => k_is); (case coccurs => k_is); (case koccurs => k_is)
    (case aput_in => k_is); (case lput_in => k_is); (case cput_in => k_is); (case kput_in => k_is); (case awith_names => k_is); (case lwith_names => k_is); (case cwith_names => k_is); (case kwith_names => k_is)
    (case aascending => k_is); (case lascending => k_is); (case cascending => k_is); (case kascending => k_is); (case aorder_of => k_is); (case lorder_of => k_is); (case corder_of => k_is); (case korder_of => k_is)
    (case aorder_by_ranks => k_is); (case lorder_by_ranks => k_is); (case corder_by_ranks => k_is); (case korder_by_ranks => k_is); (case aranked => k_is); (case lranked => k_is); (case cranked => k_is); (case kranked => k_is)
    (case adense => k_is); (case ldense => k_is); (case cdense => k_is); (case kdense => k_is); (case ais_name => k_is); (case lis_name => k_is); (case cis_name => k_is); (case kis_name => k_is)
    (case ais_term => k_is); (case lis_term => k_is); (case cis_term => k_is); (case kis_term => k_is); (case amake_term => k_is); (case lmake_term => k_is); (case cmake_term => k_is); (case kmake_term => k_is)
    (case amake_cells => k_is); (case lmake_cells => k_is); (case cmake_cells => k_is); (case kmake_cells => k_is); (case aplaces_of => k_is); (case lplaces_of => k_is); (case cplaces_of => k_is); (case kplaces_of => k_is)
    (case alevels => k_is); (case llevels => k_is); (case clevels => k_is); (case klevels => k_is); (case asize_of => k_is); (case lsize_of => k_is); (case csize_of => k_is); (case ksize_of => k_is)
    (case asubterms => k_is); (case lsubterms => k_is); (case csubterms => k_is); (case ksubterms => k_is); (case astands_in => k_is); (case lstands_in => k_is); (case cstands_in => k_is); (case kstands_in => k_is)
    (case areplaced => k_is); (case lreplaced => k_is); (case creplaced => k_is); (case kreplaced => k_is); (case arenamed => k_is); (case lrenamed => k_is); (case crenamed => k_is); (case krenamed => k_is)
    (case arenamed_by => k_is); (case lrenamed_by => k_is); (case crenamed_by => k_is); (case krenamed_by => k_is); (case atext_of => k_is); (case ltext_of => k_is); (case ctext_of => k_is); (case ktext_of => k_is)
    (case acheck_term => k_is); (case lcheck_term => k_is); (case ccheck_term => k_is); (case kcheck_term => k_is); (case acheck_renaming => k_is); (case lcheck_renaming => k_is); (case ccheck_renaming => k_is); (case kcheck_renaming => k_is)
    (case ajoint_places => k_is); (case ljoint_places => k_is); (case cjoint_places => k_is); (case kjoint_places => k_is); (case ahas_form => k_is); (case lhas_form => k_is); (case chas_form => k_is); (case khas_form => k_is)
    (case aby_name => k_is); (case lby_name => k_is); (case cby_name => k_is); (case kby_name => k_is); (case a_law_dice => k_is); (case l_law_dice => k_is); (case c_law_dice => k_is); (case k_law_dice => k_is)
    (case a_law_roll => k_is); (case l_law_roll => k_is); (case c_law_roll => k_is); (case k_law_roll => k_is); (case a_law_pick => k_is); (case l_law_pick => k_is); (case c_law_pick => k_is); (case k_law_pick => k_is)
    (case a_law_mixed => k_is); (case l_law_mixed => k_is); (case c_law_mixed => k_is); (case k_law_mixed => k_is); (case a_law_names => k_is); (case l_law_names => k_is); (case c_law_names => k_is); (case k_law_names => k_is)
    (case a_law_term => k_is); (case l_law_term => k_is); (case c_law_term => k_is); (case k_law_term => k_is); (case a_law_odd => k_is); (case l_law_odd => k_is); (case c_law_odd => k_is); (case k_law_odd => k_is)
    (case a_law_odd_renaming => k_is); (case l_law_odd_renaming => k_is); (case c_law_odd_renaming => k_is); (case k_law_odd_renaming => k_is); (case a_law_raised => k_is); (case l_law_raised => k_is); (case c_law_raised => k_is); (case k_law_raised => k_is)
    (case a_law_made_right => k_is); (case l_law_made_right => k_is); (case c_law_made_right => k_is); (case k_law_made_right => k_is); (case a_law_asked_right => k_is); (case l_law_asked_right => k_is); (case c_law_asked_right => k_is); (case k_law_asked_right => k_is)
    (case a_law_changed_right => k_is); (case l_law_changed_right => k_is); (case c_law_changed_right => k_is); (case k_law_changed_right => k_is); (case alaw => k_is); (case llaw => k_is); (case claw => k_is); (case klaw => k_is)
    (case zabs => k_is); (case zall => k_is); (case zdict => k_is); (case zenumerate => k_is); (case zint => k_is); (case zisinstance => k_is); (case zlen => k_is); (case zlist => k_is)
    (case zmax => k_is); (case zmin => k_is); (case zrange => k_is); (case zrepr => k_is); (case zset => k_is); (case zsorted => k_is); (case zstr => k_is); (case zsum => k_is)
    (case ztuple => k_is); (case zzip => k_is); (case nInvalidName => k_is); (case xInvalidName => k_exc); (case kInvalidName => k_is); (case bInvalidName => k_is); (case tInvalidName => k_is); (case iInvalidName => k_is)
    (case sInvalidName => first | rfl | k_is); (case nInvalidTerm => k_is); (case xInvalidTerm => k_exc); (case kInvalidTerm => k_is); (case bInvalidTerm => k_is); (case tInvalidTerm => k_is); (case iInvalidTerm => k_is); (case sInvalidTerm => first | rfl | k_is)
    (case nInvalidOperation => k_is); (case xInvalidOperation => k_exc); (case kInvalidOperation => k_is); (case bInvalidOperation => k_is); (case tInvalidOperation => k_is); (case iInvalidOperation => k_is); (case sInvalidOperation => first | rfl | k_is); (case nPartError => k_is)
    (case nInvalidFact => k_is); (case nInvalidBook => k_is); (case nInvalidWorld => k_is); (case nInvalidCode => k_is); (case nInvalidEdit => k_is); (case nParseError => k_is); (case nInvalidCommand => k_is); (case zFIRST_WIDTH => k_is)
    (case zMANY_PARTS => k_is); (case zMAX_PLACES => k_is); (case zLONGEST_NAME => k_is)
    (case hk => exact ⟨by kernel_rfl, by kernel_rfl, by kernel_rfl, ⟨by kernel_rfl, by kernel_rfl, by kernel_rfl, by kernel_rfl, by kernel_rfl, by kernel_rfl, by kernel_rfl, by kernel_rfl⟩, ⟨by kernel_rfl, by kernel_rfl, by kernel_rfl, by kernel_rfl, by kernel_rfl, by kernel_rfl, by kernel_rfl, by kernel_rfl⟩, ⟨by kernel_rfl, by kernel_rfl, by kernel_rfl, by kernel_rfl, by kernel_rfl, by kernel_rfl, by kernel_rfl, by kernel_rfl⟩, by kernel_rfl, by kernel_rfl, by kernel_rfl, by kernel_rfl⟩)
    (case eM => rfl); (case eA => rfl); (case eC => rfl)
