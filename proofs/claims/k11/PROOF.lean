import PyProof.Rows.All
import Wide.All
import OpenK.AllK
import Wide.FinOn
import HandS.ForMost
import HandS.TupSets
import HandS.Strs
import KE.SortData
import HandS.IsInst
import HandS.SetKeys
import HandS.StrMore
import HandS.Star
import HandS.TupAny
import HandS.Wide
import HandS.Style
import HandS.Codes
import HandS.Text
import PyProof.DictMoreH
import HandS.TupLen
import HandS.Conv
import HandS.SetBool
import HandS.ReplaceLit
import HandS.ReplaceDef
import HandS.WordsExc
import HandS.TryOnly
import HandS.NoneIn
import HandS.Walk
import HandS.More
import KE.LtData
import KE.DataCmp
import HandS.SetFor
import HandS.Lambda
import HandS.TryMany
import HandS.ExcIs
import HandS.Dict
import HandS.Small
import HandS.Deep
import HandS.DictComp
import HandS.FStr
import HandS.TupMul
import PySem.Challenge.RW_shownpart_k11_facts_made
set_option Elab.async false
set_option linter.all false
set_option maxRecDepth 100000
set_option maxHeartbeats 4000000
/-! Sets of tuples whose items are ints or texts: made from a list, and counted. -/
namespace Kx
open PySem PySem.Spec PyProof.Rows L2

/-- the tuple at b holds the keys k -/
def TupK (P : Program) (w : World) (h : Heap) (k : List Key) (b : Addr) : Prop := IsTupleKey (mixKind P w) h k b
def hsK (P : Program) (w : World) (k : List Key) : Int := tupleKeyHash (mixKind P w) k
abbrev Row := Addr × List Key
def rowsK (P : Program) (w : World) (L : List Row) : List (Int × Value) := L.map fun p => (hsK P w p.2, Value.ref p.1)
def keysK (L : List Row) : List (List Key) := L.map Prod.snd

/-- the c-th step of the way of h -/
def stp (t : SetTable) (h : Int) (c : Nat) : SetTable.Probe := nth t.mask (runAt t.mask (SetTable.bits h % (t.mask + 1)) (SetTable.bits h)) c
theorem stp_j (t : SetTable) (h : Int) (c : Nat) : (stp t h c).j = way t.mask h c := rfl
theorem stp_add (t : SetTable) (h : Int) (c q : Nat) : nth t.mask (stp t h c) q = stp t h (c + q) := (nth_add t.mask c _ q).symm
theorem nth_nodummy (m : Nat) : ∀ (n : Nat) (p : SetTable.Probe), p.dummy = none → (nth m p n).dummy = none := by
  intro n
  induction n with
  | zero => exact fun p h => h
  | succ n ih =>
    intro p h
    apply ih (adv m p)
    show (adv m p).dummy = none
    simp only [adv]
    split <;> exact h
theorem stp_nodummy (t : SetTable) (h : Int) (c : Nat) : (stp t h c).dummy = none := nth_nodummy _ c _ rfl

section
variable {P : Program} {w : World} {A : Around} {E : Value → Shared → Prop} {s : Shared}

theorem items_plain {k : List Key} {vs : List Value} (h : ItemsAre (mixKind P w) k vs) :
    ∀ v, v ∈ vs → (∃ i t, v = Value.int i t) ∨ ∃ x t, v = Value.str x t := by
  induction h with
  | nil => exact fun v hv => nomatch hv
  | cons h1 _ ih =>
    intro v hv
    rcases List.mem_cons.mp hv with e | hv
    · subst e
      rcases keyIs_shape h1 with ⟨i, t, _, e⟩ | ⟨x, t, _, e⟩
      · exact .inl ⟨i, t, e⟩
      · exact .inr ⟨x, t, e⟩
    · exact ih v hv
/-- a tuple of ints and texts is of no class statement -/
theorem ofClass_tupK {k : List Key} {b : Addr} {Q : Bool → Shared → Prop} (hk : TupK P w s.heap k b) (q : Q false s) :
    wpAny (model P w) A (ofAClassStatement 8 (.ref b)) Q E s := by
  have ty := IsTupleKey.typeIs hk
  obtain ⟨o, its, n, h1, _, h2, h3⟩ := hk
  have pl := items_plain h3
  unfold ofAClassStatement
  apply wpAny_bind (wpAny_typeOf ty _)
  dsimp only
  have tt : (("tuple" : String) == "tuple") = true := by decide
  rw [if_pos tt]
  try apply wpAny_bind (wpAny_pure _)
  simp only [Bool.not_true, Bool.false_eq_true, if_false]
  show wpAny _ _ (seqItems? (.ref b) >>= _) _ _ s
  apply wpAny_bind (wpAny_seqItems h1 h2 _)
  dsimp only
  apply wpAny_bind
  show wpAny _ _ (forIn its _ _) _ _ s
  rw [← Array.forIn_toList]
  apply wpAny_forIn_list _ (fun rest r s' => r.1 = none ∧ s' = s ∧ ∀ v, v ∈ rest → (∃ i t, v = Value.int i t) ∨ ∃ x t, v = Value.str x t) _ _ _ _ _ ⟨rfl, rfl, pl⟩
  · rintro v rest r s' ⟨hr, rfl, hall⟩
    have e0 : ofAClassStatement 7 v = pure false := by
      rcases hall v List.mem_cons_self with ⟨i, t, rfl⟩ | ⟨x, t, rfl⟩ <;> rfl
    rw [e0]
    apply wpAny_bind (wpAny_pure _)
    simp only [Bool.false_eq_true, if_false]
    exact wpAny_pure ⟨rfl, rfl, fun u hu => hall u (List.mem_cons_of_mem _ hu)⟩
  · rintro ⟨r1, r2⟩ s' ⟨hr, rfl, _⟩
    cases hr
    exact wpAny_pure q
/-- whatever is said of a tuple's hash: a Bool, and the state stays -/
theorem byValue_tupK {k : List Key} {b : Addr} {Q : Bool → Shared → Prop} (hk : TupK P w s.heap k b) (q : ∀ c, Q c s) :
    wpAny (model P w) A (hashByValue 8 (.ref b)) Q E s := by
  have ty := IsTupleKey.typeIs hk
  obtain ⟨o, its, n, h1, _, h2, h3⟩ := hk
  have pl := items_plain h3
  unfold hashByValue
  apply wpAny_bind (wpAny_specialOf ty F.slot_tuple_hash.lookup _)
  show wpAny _ _ (seqItems? (.ref b) >>= _) _ _ s
  apply wpAny_bind (wpAny_seqItems h1 h2 _)
  apply wpAny_bind
  show wpAny _ _ (forIn its _ _) _ _ s
  rw [← Array.forIn_toList]
  apply wpAny_forIn_list _ (fun rest r s' => s' = s ∧ ∀ v, v ∈ rest → (∃ i t, v = Value.int i t) ∨ ∃ x t, v = Value.str x t) _ _ _ _ _ ⟨rfl, pl⟩
  · rintro v rest r s' ⟨rfl, hall⟩
    have tl : ∀ v, v ∈ rest → (∃ i t, v = Value.int i t) ∨ ∃ x t, v = Value.str x t := fun u hu => hall u (List.mem_cons_of_mem _ hu)
    have e0 : ∃ c, hashByValue 7 v = pure c := by
      rcases hall v List.mem_cons_self with ⟨i, t, rfl⟩ | ⟨x, t, rfl⟩
      · exact ⟨true, rfl⟩
      · exact ⟨false, rfl⟩
    obtain ⟨c, e0⟩ := e0
    rw [e0]
    apply wpAny_bind (wpAny_pure _)
    cases c
    · simp only [Bool.not_false, if_true]
      exact wpAny_pure (wpAny_pure (q _))
    · simp only [Bool.not_true, Bool.false_eq_true, if_false]
      exact wpAny_pure ⟨rfl, tl⟩
  · rintro ⟨r1, r2⟩ s' ⟨rfl, _⟩
    cases r1
    · exact wpAny_pure (q _)
    · exact wpAny_pure (q _)
/-- a search among such tuples shows nothing -/
theorem unseen_tupK {k : List Key} {b : Addr} {Q : Bool → Shared → Prop} (hk : TupK P w s.heap k b) {ys : List Value}
    (hy : ∀ y, y ∈ ys → ∃ k' c, y = Value.ref c ∧ TupK P w s.heap k' c) (q : Q false s) : wpAny (model P w) A (searchCouldBeSeen (.ref b) ys) Q E s := by
  unfold searchCouldBeSeen
  apply wpAny_bind
  apply wpAny_forIn_list _ (fun rest r s' => r.1 = none ∧ s' = s ∧ ∀ y, y ∈ rest → ∃ k' c, y = Value.ref c ∧ TupK P w s.heap k' c) _ _ _ _ _ ⟨rfl, rfl, hy⟩
  · rintro v rest r s' ⟨hr, rfl, hall⟩
    obtain ⟨k', c, rfl, hc⟩ := hall v List.mem_cons_self
    have tl : ∀ y, y ∈ rest → ∃ k' c, y = Value.ref c ∧ TupK P w s'.heap k' c := fun u hu => hall u (List.mem_cons_of_mem _ hu)
    have fin : wpAny (model P w) A (pure (ForInStep.yield r)) (fun x s1 => match x with
      | .yield b' => b'.1 = none ∧ s1 = s' ∧ ∀ y, y ∈ rest → ∃ k' c, y = Value.ref c ∧ TupK P w s'.heap k' c
      | .done _ => False) E s' := wpAny_pure ⟨hr, rfl, tl⟩
    dsimp only
    by_cases hv : (b == c || (carriedByValue (.ref b) && carriedByValue (.ref c))) = true
    · exact wp_if_pos hv (wpAny_pure ⟨rfl, rfl, tl⟩)
    · apply wp_if_neg hv
      apply wpAny_bind (wpAny_eqIsQuiet_tuple hk _)
      simp only [Bool.not_true, Bool.false_eq_true, if_false]
      apply wpAny_bind (wpAny_eqIsQuiet_tuple hc _)
      simp only [Bool.not_true, Bool.false_eq_true, if_false]
      apply wpAny_bind (ofClass_tupK hk _)
      simp only [Bool.false_eq_true, if_false]
      apply wpAny_bind (ofClass_tupK hc _)
      simp only [Bool.false_eq_true, if_false]
      exact wpAny_pure ⟨rfl, rfl, tl⟩
  · rintro ⟨r1, r2⟩ s' ⟨hr, rfl, _⟩
    cases hr
    exact wpAny_pure q

/-- the set at a: its members, its table -/
structure SetK (P : Program) (w : World) (h : Heap) (a : Addr) (L : List Row) (es : Array (Int × Value)) (ep : Nat) (t : SetTable) : Prop where
  obj : ∃ o, h.get? a = some o ∧ o.ExactSet ∧ o.data = .set es ep t
  rws : es.toList = rowsK P w L
  tbl : TabOk t (L.map fun p => hsK P w p.2)
  uni : (keysK L).Nodup
  mem : ∀ p, p ∈ L → TupK P w h p.2 p.1
  rom : L.length * 5 < t.mask * 3
  low : L.length < 64
variable {a : Addr} {L : List Row} {es : Array (Int × Value)} {ep : Nat} {t : SetTable}
theorem rowsK_len {es : Array (Int × Value)} {L : List Row} (h : es.toList = rowsK P w L) : es.size = L.length := by
  have e : es.toList.length = (rowsK P w L).length := by rw [h]
  simpa [rowsK] using e
theorem rowsK_get {es : Array (Int × Value)} {L : List Row} (h : es.toList = rowsK P w L) {i : Nat} {p : Row} (hp : L[i]? = some p) : es[i]? = some (hsK P w p.2, Value.ref p.1) := by
  have e : es.toList[i]? = some (hsK P w p.2, Value.ref p.1) := by
    rw [h]
    simp [rowsK, hp]
  rwa [Array.getElem?_toList] at e
theorem fits_of {t : SetTable} {n m : Nat} (h1 : t.dummies = #[]) (h2 : t.place.size = n) (h3 : n ≤ t.mask) : t.fits n = true := by
  simp only [SetTable.fits, SetTable.fill, h1, h2]
  simp
  exact h3
theorem SetK.fit (R : SetK P w s.heap a L es ep t) : t.fits es.size = true := by
  have z := rowsK_len R.rws
  have y := R.tbl.sz
  have x := R.rom
  rw [List.length_map] at y
  exact fits_of (m := 0) R.tbl.dm (by omega) (by omega)
theorem SetK.stays (R : SetK P w s.heap a L es ep t) : ¬ t.gaveWay = true := by
  simp only [SetTable.gaveWay, mask_odd R.tbl.mok]
  decide

/-- a search, from the c-th step of the way on; K: the first empty slot -/
theorem searchK (R : SetK P w s.heap a L es ep t) {x : Addr} {k : List Key} (hx : TupK P w s.heap k x) (hu : A.units < cLine) {K : Nat} (hf : K < 10 * SetTable.turns t.mask)
    (hK : way t.mask (hsK P w k) K ∉ t.place.toList) (hb : ∀ c, c < K → way t.mask (hsK P w k) c ∈ t.place.toList) {Q : SetFound → Shared → Prop}
    (yes : k ∈ keysK L → Q (.there none) s) (no : k ∉ keysK L → Q (.free (way t.mask (hsK P w k) K) false) s) :
    ∀ (f c : Nat) (st : Option SetTable.Probe), st.getD (t.probeStart (hsK P w k)) = stp t (hsK P w k) c → c ≤ K → K - c < f →
      (∀ (i : Nat) p, L[i]? = some p → p.2 = k → ∃ d, c ≤ d ∧ d < K ∧ t.place.toList[i]? = some (way t.mask (hsK P w k) d)) →
      wpAny (model P w) A (setSearchFrom a (.ref x) (hsK P w k) true f st) Q E s := by
  intro f
  induction f with
  | zero => exact fun c st _ _ h => absurd h (Nat.not_lt_zero _)
  | succ f ih =>
  intro c st hst hc hlt hre
  obtain ⟨o, ho, hex, hd⟩ := R.obj
  generalize hH : hsK P w k = Z at *
  rw [setSearchFrom_succ]
  apply wpAny_bind (wpAny_setState_of ho hd R.fit _)
  dsimp only
  apply wp_if_neg R.stays
  try apply wpAny_bind (wpAny_pure _)
  have jw : ∀ q, (nth t.mask (stp t Z c) q).j = way t.mask Z (c + q) := fun q => by rw [stp_add, stp_j]
  have eK : c + (K - c) = K := by omega
  have at_ : ∀ (i : Nat) p, L[i]? = some p → (fun i => (es[i]?.map (·.1)).getD 0) i = hsK P w p.2 := fun i p hp => by
    simp only [rowsK_get R.rws hp, Option.map_some, Option.getD_some]
  rcases go_spec t R.tbl.ris R.tbl.dm (fun i => (es[i]?.map (·.1)).getD 0) Z (10 * SetTable.turns t.mask) (K - c) (stp t Z c) (stp_nodummy t Z c) (by omega)
      (fun q hq => by rw [jw]; exact hb _ (by omega)) (by rw [jw, eK]; exact hK) with ⟨q, i, hq, hi, hh, hno, hpr⟩ | ⟨hno, hpr⟩
  · -- a candidate at the (c + q)-th step
    rw [jw] at hi
    have pr : t.probe (fun i => (es[i]?.map (·.1)).getD 0) Z (st.getD (t.probeStart Z)) = some (.candidate (way t.mask Z (c + q)) i (stp t Z (c + (q + 1)))) := by
      rw [hst, ← jw, ← stp_add]
      exact hpr
    rw [pr]
    dsimp only
    have hil : i < L.length := by
      have h1 := (List.getElem?_eq_some_iff.mp hi).1
      have h2 := R.tbl.sz
      rw [List.length_map] at h2
      rw [Array.length_toList, h2] at h1
      exact h1
    obtain ⟨p, hp⟩ : ∃ p, L[i]? = some p := ⟨L[i], List.getElem?_eq_getElem hil⟩
    have pm : p ∈ L := List.mem_of_getElem? hp
    have pe := rowsK_get R.rws hp
    have sl : t.slot (way t.mask Z (c + q)) = .live i := slot_live R.tbl.ris hi
    have go : wpAny (model P w) A (searchRest a (.ref x) Z true f es t (way t.mask Z (c + q)) i (stp t Z (c + (q + 1)))) Q E s := by
      unfold searchRest
      rw [pe]
      dsimp only
      apply wpAny_bind (wpAny_holding (wpAny_eqBool_tuple hu (R.mem p pm) hx _))
      apply wpAny_bind (wpAny_setState_of ho hd R.fit _)
      dsimp only
      by_cases hpk : p.2 = k
      · exact wp_if_pos (by simp [hpk]) (wpAny_pure (yes (List.mem_map.mpr ⟨p, pm, hpk⟩)))
      · apply wp_if_neg (by simp [hpk])
        try apply wpAny_bind (wpAny_pure _)
        rw [sameMem]
        dsimp only
        simp only [if_true, sl, pe]
        apply wpAny_bind (wpAny_isSame_ref_self (wpAny_bind (wpAny_pure _)))
        simp only [if_true]
        apply wp_if_neg (by simp [hpk])
        apply ih (c + (q + 1)) _ rfl (by omega) (by omega)
        intro i0 p0 h0 hk0
        obtain ⟨d, d1, d2, d3⟩ := hre i0 p0 h0 hk0
        refine ⟨d, ?_, d2, d3⟩
        have z0 : hsK P w p0.2 = Z := by rw [hk0, hH]
        by_cases z : d < c + q
        · exact absurd ((at_ i0 p0 h0).trans z0) (hno (d - c) i0 (by omega) (by rw [jw, show c + (d - c) = d by omega]; exact d3))
        · by_cases y : d = c + q
          · subst y
            have s0 := slot_live R.tbl.ris d3
            rw [sl] at s0
            injection s0 with s0
            subst s0
            rw [hp] at h0
            exact absurd ((congrArg Prod.snd (Option.some.inj h0)).trans hk0) hpk
          · omega
    by_cases hl : t.led = true
    · apply wp_if_neg (by simp [hl])
      try apply wpAny_bind (wpAny_pure _)
      exact go
    · apply wp_if_pos (by simp [hl])
      apply wpAny_bind (unseen_tupK hx _ _)
      · intro y hy
        obtain ⟨e, he, rfl⟩ := List.mem_map.mp hy
        have he2 : e ∈ es.toList := by simpa using (by simpa using he : e ∈ es ∧ e.1 = Z).1
        rw [R.rws] at he2
        obtain ⟨p2, hp2, rfl⟩ := List.mem_map.mp he2
        exact ⟨p2.2, p2.1, rfl, R.mem p2 hp2⟩
      · apply wp_if_neg (by decide)
        try apply wpAny_bind (wpAny_pure _)
        exact go
  · -- the empty slot
    have pr : t.probe (fun i => (es[i]?.map (·.1)).getD 0) Z (st.getD (t.probeStart Z)) = some (.empty (way t.mask Z K) none) := by
      have e2 : (nth t.mask (stp t Z c) (K - c)).j = way t.mask Z K := by rw [jw, eK]
      rw [hst, ← e2]
      exact hpr
    rw [pr]
    dsimp only
    apply wpAny_pure (no _)
    intro hm
    obtain ⟨p0, h0, hk0⟩ := List.mem_map.mp hm
    obtain ⟨i0, hi0⟩ := List.mem_iff_getElem?.mp h0
    obtain ⟨d, d1, d2, d3⟩ := hre i0 p0 hi0 hk0
    exact hno (d - c) i0 (by omega) (by rw [jw, show c + (d - c) = d by omega]; exact d3) ((at_ i0 p0 hi0).trans (by rw [show p0.2 = k from hk0, hH]))
/-- the search that adding asks for -/
theorem searchK0 (R : SetK P w s.heap a L es ep t) {x : Addr} {k : List Key} (hx : TupK P w s.heap k x) (hu : A.units < cLine) {Q : SetFound → Shared → Prop}
    (yes : k ∈ keysK L → Q (.there none) s)
    (no : ∀ K, k ∉ keysK L → way t.mask (hsK P w k) K ∉ t.place.toList → (∀ c, c < K → way t.mask (hsK P w k) c ∈ t.place.toList) → Q (.free (way t.mask (hsK P w k) K) false) s) :
    wpAny (model P w) A (setSearch a (.ref x) (hsK P w k) true) Q E s := by
  have rm := R.rom
  obtain ⟨K, hf, hK, hb⟩ := R.tbl.first (by rw [List.length_map]; omega) (hsK P w k)
  have big : K < 100000 := by
    refine Nat.lt_trans hf ?_
    unfold SetTable.turns
    rcases R.tbl.mok with e | e | e <;> rw [e] <;> decide
  unfold setSearch
  apply searchK R hx hu hf hK hb yes (fun hn => no K hn hK hb) 100000 0 none rfl (Nat.zero_le _) (by omega)
  intro i p hp hk
  have hl : i < t.place.toList.length := by
    have h1 := (List.getElem?_eq_some_iff.mp hp).1
    have h2 := R.tbl.sz
    rw [List.length_map] at h2
    rw [Array.length_toList]
    omega
  have hj := List.getElem?_eq_getElem hl
  have hi : (L.map fun p => hsK P w p.2)[i]? = some (hsK P w k) := by simp [hp, hk]
  obtain ⟨c, hc, e⟩ := R.tbl.before hK hi hj
  exact ⟨c, Nat.zero_le _, hc, by rw [hj, e]⟩

/-- a tuple stands while the set changes -/
theorem TupK.but {h h' : Heap} {k : List Key} {a b : Addr} {o : Obj} {es : Array (Int × Value)} {ep : Nat} {t : SetTable} (hb : TupK P w h k b) (ho : h.get? a = some o) (hd : o.data = .set es ep t) (hs : Heap.SameBut a h h') : TupK P w h' k b := by
  obtain ⟨u, its, n, h1, h2, h3, h4⟩ := hb
  have ne : b ≠ a := fun e => by
    subst e
    rw [h1] at ho
    cases ho
    rw [h3] at hd
    cases hd
  exact ⟨u, its, n, (hs.2 b ne).trans h1, h2, h3, h4⟩
theorem TupK.kept {h h' : Heap} {k : List Key} {b : Addr} (x : TupK P w h k b) (hk : ∀ c o, h.get? c = some o → h'.get? c = some o) : TupK P w h' k b := by
  obtain ⟨u, its, n, h1, r⟩ := x
  exact ⟨u, its, n, hk _ _ h1, r⟩
theorem ins_perm {α : Type} (L : List α) (p : Nat) (x : α) : (L.take p ++ x :: L.drop p).Perm (x :: L) :=
  List.perm_middle.trans (by rw [List.take_append_drop])
theorem range_get {α : Type} (L : List α) : (List.range L.length).filterMap (fun i => L[i]?) = L := by
  have key : ∀ n, n ≤ L.length → (List.range n).filterMap (fun i => L[i]?) = L.take n := by
    intro n
    induction n with
    | zero => exact fun _ => rfl
    | succ n ih =>
      intro hn
      have e := List.getElem?_eq_getElem (show n < L.length from hn)
      rw [List.range_succ, List.filterMap_append, ih (by omega), List.take_succ, e]
      simp [e]
  rw [key _ (Nat.le_refl _), List.take_length]
/-- the rows in another order -/
theorem rows_order (L : List Row) (es : Array (Int × Value)) (ord : Array Nat) (hr : es.toList = rowsK P w L) (hp : ord.toList.Perm (List.range L.length)) :
    ∃ L2, (ord.filterMap (es[·]?)).toList = rowsK P w L2 ∧ L2.Perm L ∧ (L2.map fun p => hsK P w p.2) = ord.toList.map fun i => (es.map (·.1)).getD i 0 := by
  have sz := rowsK_len hr
  have key : ∀ l : List Nat, (∀ i, i ∈ l → i < L.length) → l.filterMap (fun i => es[i]?) = rowsK P w (l.filterMap fun i => L[i]?) ∧
      ((l.filterMap fun i => L[i]?).map fun p => hsK P w p.2) = l.map fun i => (es.map (·.1)).getD i 0 := by
    intro l
    induction l with
    | nil => exact fun _ => ⟨rfl, rfl⟩
    | cons i l ih =>
      intro hl
      have hi := List.getElem?_eq_getElem (hl i List.mem_cons_self)
      obtain ⟨e1, e2⟩ := ih fun j hj => hl j (List.mem_cons_of_mem _ hj)
      have ee := rowsK_get hr hi
      constructor
      · rw [List.filterMap_cons_some ee, List.filterMap_cons_some hi, e1]
        rfl
      · rw [List.filterMap_cons_some hi, List.map_cons, List.map_cons, e2]
        have e3 : (es.map (·.1))[i]? = some (hsK P w (L[i]'(hl i List.mem_cons_self)).2) := by rw [Array.getElem?_map, ee]; rfl
        rw [show (es.map (·.1)).getD i 0 = hsK P w (L[i]'(hl i List.mem_cons_self)).2 by simp [Array.getD_eq_getD_getElem?, e3]]
  obtain ⟨e1, e2⟩ := key ord.toList fun i hi => List.mem_range.mp (hp.mem_iff.mp hi)
  refine ⟨ord.toList.filterMap fun i => L[i]?, ?_, ?_, e2⟩
  · rw [Array.toList_filterMap]
    exact e1
  · have z := hp.filterMap (fun i => L[i]?)
    rw [range_get] at z
    exact z

/-- the table laid anew -/
theorem relayK {o : Obj} (ho : s.heap.get? a = some o) (hex : o.ExactSet) (hd : o.data = .set es ep t) (hr : es.toList = rowsK P w L) (hsz : t.place.size = es.size) (hdm : t.dummies = #[]) (hfl : es.size ≤ t.mask)
    (uni : (keysK L).Nodup) (mem : ∀ p, p ∈ L → TupK P w s.heap p.2 p.1) (low : L.length < 64) {wn M : Nat}
    (hw : SetTable.sizeAbove wn - 1 = M) (hM : MaskOk M) (hw2 : SetTable.sizeAbove wn ≤ 128) (hn : L.length * 5 < M * 3) {Q : Unit → Shared → Prop}
    (q : ∀ h' L' es' ep' t', Heap.SameBut a s.heap h' → SetK P w h' a L' es' ep' t' → L'.Perm L → Q () { s with heap := h' }) : wpAny (model P w) A (setRelay a wn) Q E s := by
  have hsl := rowsK_len hr
  obtain ⟨t', ord, e, hp, T, em, _, _, _⟩ := relaid_ok t (hs := es.map (·.1)) (wanted := wn) hw hM (by rw [Array.size_map, hsl]; omega)
  rw [Array.size_map, hsl] at hp
  obtain ⟨L2, r1, r2, r3⟩ := rows_order L es ord hr hp
  have hs2 : (ord.filterMap (es[·]?)).size = L.length := by rw [rowsK_len r1, r2.length_eq]
  rw [← r3] at T
  rw [setRelay_eq]
  apply wpAny_bind (wpAny_setState_of ho hd (fits_of (m := 0) hdm hsz hfl) _)
  dsimp only
  apply wp_if_neg (by rw [sizeLine_eq]; omega)
  try apply wpAny_bind (wpAny_pure _)
  rw [e]
  dsimp only
  apply wpAny_bind
  apply wp_if_neg (by rw [hs2, hsl]; simp)
  try apply wpAny_bind (wpAny_pure _)
  apply wpAny_pure
  dsimp only
  apply wpAny_storeSet_of ho hd _ (by rw [hs2, sizeLine_eq]; omega)
  have sb : Heap.SameBut a s.heap (s.heap.update a (Obj.putSet (ord.filterMap (es[·]?)) t')) := Heap.SameBut.update ..
  apply q _ L2 (ord.filterMap (es[·]?)) (ep + 1) t' sb _ r2
  exact ⟨⟨_, store_at ho hd, ⟨hex.1, hex.2.1, hex.2.2⟩, rfl⟩, r1, T, (r2.map Prod.snd).nodup_iff.mpr uni, fun p hpm => TupK.but (mem p (r2.mem_iff.mp hpm)) ho hd sb, by rw [r2.length_eq, em]; exact hn, by rw [r2.length_eq]; exact low⟩

/-- a member more -/
theorem addK (R : SetK P w s.heap a L es ep t) {x : Addr} {k : List Key} (hx : TupK P w s.heap k x) (hu : A.units < cLine) (few : k ∉ keysK L → L.length + 1 < 64) {Q : Bool → Shared → Prop}
    (q : ∀ b h' L' es' ep' t', Heap.SameBut a s.heap h' → SetK P w h' a L' es' ep' t' → (k ∈ keysK L → L' = L) → (k ∉ keysK L → L'.Perm ((x, k) :: L)) → Q b { s with heap := h' }) :
    wpAny (model P w) A (setAddHashed a (.ref x) (hsK P w k)) Q E s := by
  obtain ⟨o, ho, hex, hd⟩ := R.obj
  have hsl := rowsK_len R.rws
  have rm := R.rom
  unfold setAddHashed
  apply wpAny_holding
  rw [show (100000 : Nat) = 99999 + 1 from rfl, setAddHashedIn_succ]
  apply wpAny_bind (wpAny_setState_of ho hd R.fit _)
  dsimp only
  apply wp_if_neg (by simp [byScan, Value.scannable])
  try apply wpAny_bind (wpAny_pure _)
  apply wpAny_bind (searchK0 R hx hu _ _)
  · intro hm
    dsimp only
    exact wpAny_pure (q false s.heap L es ep t (Heap.SameBut.refl a s.heap) R (fun _ => rfl) fun z => absurd hm z)
  intro K hm hK hb
  have few := few hm
  dsimp only
  apply wpAny_bind (wpAny_setState_of ho hd R.fit _)
  dsimp only
  obtain ⟨q1, q2, q3, q4, _, _, _, _, q9⟩ := R.tbl.put hK hb
  generalize hpt : t.put (way t.mask (hsK P w k) K) = pt at q1 q3 q4 q9 ⊢
  obtain ⟨t1, p⟩ := pt
  dsimp only at q1 q3 q4 q9 ⊢
  subst q1
  generalize hpp : SetTable.below t.place (way t.mask (hsK P w k) K) = p at *
  have ins : (SetTable.insertAt es p (hsK P w k, Value.ref x)).toList = rowsK P w (L.take p ++ (x, k) :: L.drop p) := by
    rw [SetTable.toList_insertAt, R.rws]
    simp [rowsK]
  have pm := ins_perm L p (x, k)
  have len1 : (L.take p ++ (x, k) :: L.drop p).length = L.length + 1 := pm.length_eq
  have T1 : TabOk t1 ((L.take p ++ (x, k) :: L.drop p).map fun p => hsK P w p.2) := by
    have e : (L.take p ++ (x, k) :: L.drop p).map (fun p => hsK P w p.2) = (L.map fun p => hsK P w p.2).take p ++ hsK P w k :: (L.map fun p => hsK P w p.2).drop p := by simp
    rw [e]
    exact q3
  have uni1 : (keysK (L.take p ++ (x, k) :: L.drop p)).Nodup := (pm.map Prod.snd).nodup_iff.mpr (List.nodup_cons.mpr ⟨hm, R.uni⟩)
  have sz1 := rowsK_len ins
  rw [len1] at sz1
  generalize SetTable.insertAt es p (hsK P w k, Value.ref x) = es1 at *
  generalize L.take p ++ (x, k) :: L.drop p = L1 at *
  have main : ∀ t2 : SetTable, t2.place = t1.place → t2.dummies = t1.dummies → t2.mask = t1.mask → t2.fill = t1.fill →
      wpAny (model P w) A (do
        storeSet a es1 t2
        if !false && t2.tooFull then setRelay a (SetTable.grown (es.size + 1))
        return true) Q E s := by
    intro t2 f1 f2 f3 f4
    have T2 : TabOk t2 (L1.map fun p => hsK P w p.2) := by
      obtain ⟨a1, a2, a3, a4, a5, a6⟩ := T1
      exact ⟨by rw [f1]; exact a1, by rw [f2]; exact a2, by rw [f1]; exact a3, by rw [f3]; exact a4, by rw [f1, f3]; exact a5, by rw [f1, f3]; exact a6⟩
    apply wpAny_bind (wpAny_storeSet_of ho hd _ (by rw [sz1, sizeLine_eq]; omega))
    have sb : Heap.SameBut a s.heap (s.heap.update a (Obj.putSet es1 t2)) := Heap.SameBut.update ..
    have ho1 := store_at (es' := es1) (t' := t2) ho hd
    generalize s.heap.update a (Obj.putSet es1 t2) = h1 at sb ho1 ⊢
    have mem1 : ∀ p, p ∈ L1 → TupK P w h1 p.2 p.1 := fun p hp => by
      rcases List.mem_cons.mp (pm.mem_iff.mp hp) with e | hp
      · rw [e]; exact TupK.but hx ho hd sb
      · exact TupK.but (R.mem p hp) ho hd sb
    have fl : t2.tooFull = decide (t2.fill * 5 ≥ t2.mask * 3) := rfl
    rw [f4, q9, List.length_map] at fl
    by_cases hf : t2.tooFull = true
    · rw [hf]
      rw [hf] at fl
      have full : (L.length + 1) * 5 ≥ t2.mask * 3 := of_decide_eq_true fl.symm
      have two : (t2.mask = 7 ∧ L.length = 4) ∨ (t2.mask = 31 ∧ L.length = 18) := by
        rw [f3, q4] at full ⊢
        rcases R.tbl.mok with e | e | e <;> rw [e] at full rm ⊢ <;> omega
      have go : ∀ M, SetTable.sizeAbove (SetTable.grown (L.length + 1)) - 1 = M → MaskOk M → SetTable.sizeAbove (SetTable.grown (L.length + 1)) ≤ 128 → (L.length + 1) * 5 < M * 3 →
          wpAny (model P w) A (setRelay a (SetTable.grown (L.length + 1))) (fun _ s' => wpAny (model P w) A (pure true) Q E s') E { s with heap := h1 } := by
        intro M a1 a2 a3 a4
        apply relayK (s := { s with heap := h1 }) ho1 ⟨hex.1, hex.2.1, hex.2.2⟩ rfl ins (by rw [T2.sz, List.length_map, len1, sz1]) T2.dm (by rw [sz1]; rcases two with ⟨e, e2⟩ | ⟨e, e2⟩ <;> omega) uni1 mem1 (by rw [len1]; exact few) a1 a2 a3 (by rw [len1]; exact a4)
        intro h2 L2 es2 ep2 t3 sb2 R2 pm2
        exact wpAny_pure (q true h2 L2 es2 ep2 t3 (sb.trans sb2) R2 (fun z => absurd z hm) fun _ => pm2.trans pm)
      simp only [Bool.not_false, Bool.and_self, if_true]
      apply wpAny_bind
      rw [hsl]
      rcases two with ⟨_, e2⟩ | ⟨_, e2⟩
      · exact go 31 (by rw [e2, size_20]) (.inr (.inl rfl)) (by rw [e2, size_20]; decide) (by omega)
      · exact go 127 (by rw [e2, size_76]) (.inr (.inr rfl)) (by rw [e2, size_76]; decide) (by omega)
    · have hf' : t2.tooFull = false := by simpa using hf
      rw [hf']
      rw [hf'] at fl
      have nf : ¬ (L.length + 1) * 5 ≥ t2.mask * 3 := of_decide_eq_false fl.symm
      simp only [Bool.and_false, Bool.false_eq_true, if_false]
      try apply wpAny_bind (wpAny_pure _)
      exact wpAny_pure (q true h1 L1 es1 (ep + 1) t2 sb ⟨⟨_, ho1, ⟨hex.1, hex.2.1, hex.2.2⟩, rfl⟩, ins, T2, uni1, mem1, by rw [len1]; omega, by rw [len1]; exact few⟩ (fun z => absurd z hm) fun _ => pm)
  by_cases hp : t1.plain = true
  · first
      | apply wp_if_pos hp (wpAny_bind (byValue_tupK hx _))
      | (apply wpAny_bind; apply wp_if_pos hp (byValue_tupK hx _))
    intro c
    cases c
    · exact main { t1 with plain := false } rfl rfl rfl rfl
    · exact main t1 rfl rfl rfl rfl
  · first
      | apply wp_if_neg hp (wpAny_bind (wpAny_pure _))
      | (apply wpAny_bind; apply wp_if_neg hp (wpAny_pure _))
    exact main t1 rfl rfl rfl rfl

/-- what the set has got from the first i items -/
structure Had (ks : List Row) (i : Nat) (L : List Row) : Prop where
  sub : ∀ p, p ∈ L → p ∈ ks.take i
  all : ∀ p, p ∈ ks.take i → p.2 ∈ keysK L
  len : L.length ≤ i
theorem Had.nil (ks : List Row) : Had ks 0 [] := ⟨fun _ h => (nomatch h), fun _ h => (by simp at h), Nat.le_refl _⟩
theorem take_one {α : Type} {l : List α} {i : Nat} {x : α} (h : l[i]? = some x) : l.take (i + 1) = l.take i ++ [x] := by
  simp [List.take_succ, h]
theorem Had.next {ks L L' : List Row} {i : Nat} {x : Row} (g : Had ks i L) (h : ks[i]? = some x) (c1 : x.2 ∈ keysK L → L' = L) (c2 : x.2 ∉ keysK L → L'.Perm (x :: L)) : Had ks (i + 1) L' := by
  by_cases c : x.2 ∈ keysK L
  · rw [c1 c]
    refine ⟨fun p hp => ?_, fun p hp => ?_, Nat.le_succ_of_le g.len⟩
    · rw [take_one h]
      exact List.mem_append_left _ (g.sub p hp)
    · rw [take_one h, List.mem_append, List.mem_singleton] at hp
      rcases hp with z | z
      · exact g.all p z
      · rw [z]; exact c
  · have pm := c2 c
    refine ⟨fun p hp => ?_, fun p hp => ?_, by rw [pm.length_eq]; exact Nat.succ_le_succ g.len⟩
    · rw [take_one h]
      rcases List.mem_cons.mp (pm.mem_iff.mp hp) with e | z
      · exact List.mem_append_right _ (by rw [e]; exact List.mem_singleton.mpr rfl)
      · exact List.mem_append_left _ (g.sub p z)
    · rw [keysK, (pm.map Prod.snd).mem_iff, List.map_cons]
      rw [take_one h, List.mem_append, List.mem_singleton] at hp
      rcases hp with z | z
      · exact List.mem_cons_of_mem _ (g.all p z)
      · rw [z]; exact List.mem_cons_self
theorem SetK.moved {h h' : Heap} (R : SetK P w h a L es ep t) (ha : ∀ o, h.get? a = some o → h'.get? a = some o) (ht : ∀ p, p ∈ L → TupK P w h' p.2 p.1) : SetK P w h' a L es ep t := by
  obtain ⟨o, ho, r⟩ := R.obj
  exact ⟨⟨o, ha o ho, r⟩, R.rws, R.tbl, R.uni, ht, R.rom, R.low⟩
/-- a new set's object -/
def set0 (b : Bool) : Obj := { cls := .type "set", dict := none, data := .set #[] 0 (.fresh 0 0 b) }
theorem setK_new {h : Heap} {b : Bool} (ho : h.get? a = some (set0 b)) : SetK P w h a [] #[] 0 (.fresh 0 0 b) :=
  ⟨⟨_, ho, ⟨rfl, rfl, rfl⟩, rfl⟩, rfl, ⟨List.Pairwise.nil, rfl, rfl, .inl rfl, fun _ hx => (nomatch hx), fun i z j hi => (by simp at hi)⟩, List.nodup_nil, fun _ hp => (nomatch hp), (by decide : 0 * 5 < 7 * 3), (by decide : 0 < 64)⟩

/-- few different ones -/
def Few (ks : List Row) : Prop := ∀ D : List (List Key), D.Nodup → (∀ k, k ∈ D → k ∈ keysK ks) → D.length < 64
theorem nodup_le {α : Type} [DecidableEq α] : ∀ (l D : List α), D.Nodup → (∀ x, x ∈ D → x ∈ l) → D.length ≤ l.length
  | [], D, _, h => by
    have : D = [] := List.eq_nil_iff_forall_not_mem.mpr fun z hz => by simpa using h z hz
    rw [this]
    exact Nat.le_refl _
  | a :: r, D, nd, h => by
    by_cases aD : a ∈ D
    · have e := nodup_le r (D.erase a) (nd.erase a) fun z hz => by
        rw [nd.mem_erase_iff] at hz
        exact (List.mem_cons.mp (h z hz.2)).elim (fun e => absurd e hz.1) id
      rw [List.length_erase_of_mem aD] at e
      rw [List.length_cons]
      omega
    · have e := nodup_le r D nd fun z hz => (List.mem_cons.mp (h z hz)).elim (fun e => absurd (by rw [← e]; exact hz) aD) id
      rw [List.length_cons]
      omega
theorem few_of {ks : List Row} (h : ks.length < 64) : Few ks := fun D nd hD => by
  have e := nodup_le (keysK ks) D nd hD
  have : (keysK ks).length = ks.length := by simp [keysK]
  omega
/-- the loop of set.update over a list of tuples -/
theorem loopK {I : Addr} {fp wr : List Addr} {G : Array GenState → Array GenState → Prop} {n : Nat} {Pv : Nat → Value → Prop} {St : Nat → Shared → Prop} {R : Result → Shared → Prop}
    (W : WalksS P w A.in1 I fp wr G n Pv St) (S : Addr) (nS : S ∉ fp) (ks : List Row) (hn : n = ks.length) (few : Few ks) (val : ∀ i v, Pv i v → ∃ p, ks[i]? = some p ∧ v = .ref p.1)
    (g0 : Heap) (hk : ∀ p, p ∈ ks → TupK P w g0 p.2 p.1) (n0 : g0.get? S = none) (w0 : ∀ b, b ∈ wr → g0.get? b = none) (hu : A.in1.units < cLine) :
    ∀ (m i : Nat) (s : Shared), n - i = m → i ≤ n → St i s → (∀ b o, g0.get? b = some o → s.heap.get? b = some o) → (∃ L es ep t, SetK P w s.heap S L es ep t ∧ Had ks i L) →
      (∀ s' L es ep t, Moved (S :: wr) G s s' → SetK P w s'.heap S L es ep t → Had ks n L → (∀ b o, g0.get? b = some o → s'.heap.get? b = some o) → R (.ok (.ret .none)) s') →
      codeAny (model P w) A (.builtin "set.update.loop" ⟨[.ref S, .ref I], []⟩) R s := by
  have sw : S ∉ wr := fun h => nS (W.sub _ h)
  have up : ∀ b, b ∈ wr → b ∈ S :: wr := fun b hb => List.mem_cons_of_mem _ hb
  have kp : ∀ {s s' : Shared}, Moved wr G s s' → (∀ b o, g0.get? b = some o → s.heap.get? b = some o) → ∀ b o, g0.get? b = some o → s'.heap.get? b = some o := fun hm h b o e =>
    hm.heap b o (fun hb => by rw [w0 b hb] at e; cases e) (h b o e)
  intro m
  induction m with
  | zero =>
    intro i s hm hi hst hkp ⟨L, es, ep, t, hS, g⟩ hR
    obtain rfl : i = n := by omega
    apply codeAny_builtin F.entry_set_update_loop
    rw [Around.under_plainId F.plain_set_update_loop _]
    show wpAny _ A.in1 (pyNext (.ref I) >>= _) _ _ s
    apply wpAny_bind (W.done s _ _ hst _)
    intro s' mv
    show wpAny _ A.in1 (ret Value.none) _ _ s'
    have k2 := kp mv hkp
    exact wpAny_pure (hR s' L es ep t (mv.mono up) (hS.moved (fun o e => mv.heap S o sw e) fun p hp => TupK.kept (hk p (List.mem_of_mem_take (g.sub p hp))) k2) g k2)
  | succ m ih =>
    intro i s hm hi hst hkp ⟨L, es, ep, t, hS, g⟩ hR
    have lt : i < n := by omega
    apply codeAny_builtin F.entry_set_update_loop
    rw [Around.under_plainId F.plain_set_update_loop _]
    show wpAny _ A.in1 (pyNext (.ref I) >>= _) _ _ s
    apply wpAny_bind (W.item i s _ _ lt hst _)
    intro v s' hP hst' mv
    obtain ⟨p, hp, rfl⟩ := val i v hP
    have k2 := kp mv hkp
    have hS' : SetK P w s'.heap S L es ep t := hS.moved (fun o e => mv.heap S o sw e) fun q hq => TupK.kept (hk q (List.mem_of_mem_take (g.sub q hq))) k2
    have hx : TupK P w s'.heap p.2 p.1 := TupK.kept (hk p (List.mem_of_getElem? hp)) k2
    show wpAny _ A.in1 (holding [Value.ref p.1] (setAdd S (.ref p.1)) >>= _) _ _ s'
    apply wpAny_bind (wpAny_holding _)
    unfold setAdd
    apply wpAny_holding
    apply wpAny_bind (wpAny_pyHash_tuple hu hx _)
    apply addK (s := { s' with toks := s'.toks + (p.2.length + 1) }) hS' hx hu (fun nk => by
      have z := few (keysK L ++ [p.2]) (by
        rw [List.nodup_append]
        refine ⟨hS'.uni, by simp, fun a ha b hb => ?_⟩
        rw [List.mem_singleton.mp hb]
        rintro rfl
        exact nk ha) fun k hk2 => by
        rcases List.mem_append.mp hk2 with hk2 | hk2
        · obtain ⟨q, hq, rfl⟩ := List.mem_map.mp hk2
          exact List.mem_map.mpr ⟨q, List.mem_of_mem_take (g.sub q hq), rfl⟩
        · rw [List.mem_singleton.mp hk2]
          exact List.mem_map.mpr ⟨p, List.mem_of_getElem? hp, rfl⟩
      have zl : (keysK L).length = L.length := by simp [keysK]
      rw [List.length_append, zl] at z
      exact z)
    intro b h' L' es' ep' t' sb hS2 c1 c2
    have k3 : ∀ b o, g0.get? b = some o → h'.get? b = some o := fun b o e => (sb.2 b (fun z => by rw [z, n0] at e; cases e)).trans (k2 b o e)
    have fr := W.frame (i + 1) s' h' (s'.toks + (p.2.length + 1)) hst' (Nat.le_add_right _ _) fun b hb o e => by
      rw [sb.2 b (fun h : b = S => nS (by rw [← h]; exact hb))]; exact e
    apply wpAny_pure
    refine ⟨plainId_quiet F.plain_set_update_loop _, ih (i + 1) _ (by omega) lt fr k3 ⟨L', es', ep', t', hS2, g.next hp c1 c2⟩ fun s'' L2 es2 ep2 t2 mv2 hS3 g3 k4 => ?_⟩
    refine hR s'' L2 es2 ep2 t2 (Moved.trans W.gtrans ((mv.mono up).then_heap (Nat.le_add_right _ _) fun b o hb e => ?_) mv2) hS3 g3 k4
    rw [sb.2 b fun h => hb (by rw [h]; exact List.mem_cons_self)]
    exact e

/-- what the loop of set(xs) does -/
structure SetLoop (P : Program) (w : World) (A : Around) (s : Shared) (l : Addr) (Post : Heap → Prop) : Prop where
  run : ∀ (led : Bool) (R : Result → Shared → Prop), (w.params.followText "set-order" = true ∨ led = true) → (∀ h' tk, Post h' → (∀ b o, s.heap.get? b = some o → h'.get? b = some o) → R (.ok (.ret .none)) { s with heap := h', toks := tk }) →
    codeAny (model P w) A.in1.in1 (.builtin "set.update.loop" ⟨[.ref s.heap.objs.size, .ref (s.heap.push (set0 led)).objs.size], []⟩) R
      { s with heap := (s.heap.push (set0 led)).push { cls := .type "list_iterator", data := .fields #[.ref l, .int 0 0] } }
structure SetGoal (s : Shared) (Post : Heap → Prop) (Q : Value → Shared → Prop) : Prop where
  out : ∀ (h' : Heap) (tk : Nat), Post h' → (∀ b o, s.heap.get? b = some o → h'.get? b = some o) → Q (.ref s.heap.objs.size) { s with heap := h', toks := tk }
/-- set(xs), by what its loop does -/
theorem call_set_gen {l : Addr} {its : Array Value} (Post : Heap → Prop) {Q : Value → Shared → Prop} (hl : s.heap.IsList l its) (loop : SetLoop P w A s l Post) (q : SetGoal s Post Q) :
    wpAny (model P w) A (call (.type "set") [.ref l]) Q E s := by
  obtain ⟨c, tl, hmro⟩ := F.called_set.mro
  have y1 := F.called_set.made
  have y2 := F.called_set.sub
  apply wpAny_call (codeAny_of_tree _)
  show wpAny _ _ (callAny (.type "set") _) _ _ _
  apply wpAny_pure
  refine ⟨Code.quiet_builtin _ (by decide +kernel), codeAny_builtin F.entry_type_call ?_⟩
  rw [Around.under_plain (weight_type_call_type "set" [.ref l] []) rfl]
  have y3 := F.called_set.notType
  have y4 := F.called_set.canCreate
  have y5 := F.typeCall_set_1 (.ref l)
  repeat (any_goals (first | assumption | wp_step))
  generalize hb : (!w.params.followText "set-order") = led at *
  have hled : w.params.followText "set-order" = true ∨ led = true := by
    rw [← hb]
    cases w.params.followText "set-order" <;> simp
  have z0 : ∀ b, s.heap.objs.size ≤ b → s.heap.get? b = none := fun b hb => by
    cases e : s.heap.get? b with
    | none => rfl
    | some o => exact absurd (Heap.lt_size e) (Nat.not_lt.mpr hb)
  have n1 : (s.heap.push (set0 led)).objs.size = s.heap.objs.size + 1 := Heap.size_push ..
  have g1 : (s.heap.push (set0 led)).get? s.heap.objs.size = some (set0 led) := Heap.get?_push_size _ rfl
  apply codeAny_mono (code_set_led1 (.ref l) (E := E) (Q₁ := fun obj s₁ => obj = .ref s.heap.objs.size ∧ s₁ = { s with heap := s.heap.push (set0 led) }) ⟨rfl, by rw [hb]; rfl⟩)
  intro r s₁ hr
  rcases r with e | fl
  · exact hr
  cases fl with
  | next => exact hr.elim
  | brk => exact hr.elim
  | cont => exact hr.elim
  | ret obj =>
  obtain ⟨rfl, rfl⟩ := hr
  have ty : Shared.TypeIs { s with heap := s.heap.push (set0 led) } (.ref s.heap.objs.size) "set" := ⟨_, g1, rfl⟩
  have x1 := F.called_set.init.lookup
  have x2 := F.called_set.init.bind (.ref s.heap.objs.size)
  repeat (any_goals (first | assumption | wp_step))
  apply codeAny_mono (codeAny_call_builtin (R := wants (fun r s₂ => r = .none ∧ ∃ h' tk, s₂ = { s with heap := h', toks := tk } ∧ Post h' ∧
    (∀ b o, s.heap.get? b = some o → h'.get? b = some o)) E) F.called_set.init.plain F.entry_set_init (check_set_init_1 ty _))
  · intro r₂ s₂ hr₂
    rcases r₂ with e | fl₂
    · exact hr₂
    cases fl₂ with
    | next => exact hr₂.elim
    | brk => exact hr₂.elim
    | cont => exact hr₂.elim
    | ret r =>
      obtain ⟨rfl, h', tk, rfl, g, k⟩ := hr₂
      repeat (any_goals (first | assumption | wp_step))
      exact q.out _ _ g k
  obtain ⟨⟨oc, od, odt, osl⟩, hol, hcl, nl, hdl⟩ := hl
  dsimp only at hcl hdl
  subst hcl hdl
  have ls : l < s.heap.objs.size := Heap.lt_size hol
  have g2 := Heap.get?_push_of_some (set0 led) hol
  have w1 := F.sub_list_set
  have w2 := F.sub_list_frozenset
  have w3 : (Value.type "list" == Value.type "dict") = false := by decide
  have hl1 : (s.heap.push (set0 led)).IsList l its := ⟨_, g2, rfl, nl, rfl⟩
  unfold Builtin.«set.__init__» noKeywords Builtin.Frozenset.updateFrom
  generalize hPI : pyIter = PI
  clear q y1 y2 y3 y4 y5 x1 x2 ty g1 z0 n1 hb
  wp_walk
  subst hPI
  apply wpAny_pyIter_list hl1
  apply wpAny_bind (wpAny_runValue _)
  refine loop.run led _ hled fun h' tk g k => ?_
  show wpAny _ _ _ _ _ _
  apply wpAny_pure
  show wpAny _ _ (ret Value.none) _ _ _
  exact wpAny_pure ⟨rfl, h', tk, rfl, g, k⟩
theorem no_above {h : Heap} {b : Addr} (hb : h.objs.size ≤ b) : h.get? b = none := by
  cases e : h.get? b with
  | none => rfl
  | some o => exact absurd (Heap.lt_size e) (Nat.not_lt.mpr hb)
/-- set(xs), xs a list of such tuples -/
theorem call_setK {l : Addr} {its : Array Value} (ks : List Row) {Q : Value → Shared → Prop} (hh : A.handled = none) (hl : s.heap.IsList l its) (hit : its.toList = ks.map fun p => Value.ref p.1)
    (hk : ∀ p, p ∈ ks → TupK P w s.heap p.2 p.1) (few : Few ks) (hu : A.units + 3 < cLine)
    (q : ∀ (h' : Heap) (tk : Nat) L es ep t, SetK P w h' s.heap.objs.size L es ep t → Had ks ks.length L → (∀ b o, s.heap.get? b = some o → h'.get? b = some o) → Q (.ref s.heap.objs.size) { s with heap := h', toks := tk }) :
    wpAny (model P w) A (call (.type "set") [.ref l]) Q E s := by
  have isz : its.size = ks.length := by
    have z : its.toList.length = (ks.map fun p => Value.ref p.1).length := by rw [hit]
    simpa using z
  refine call_set_gen (fun h' => ∃ L es ep t, SetK P w h' s.heap.objs.size L es ep t ∧ Had ks ks.length L) hl ⟨?_⟩ ⟨fun h' tk ⟨L, es, ep, t, hS, g⟩ k => q h' tk L es ep t hS g k⟩
  intro led R hled hR
  have n1 : (s.heap.push (set0 led)).objs.size = s.heap.objs.size + 1 := Heap.size_push ..
  have g1 : (s.heap.push (set0 led)).get? s.heap.objs.size = some (set0 led) := Heap.get?_push_size _ rfl
  have hl1 := hl.push (set0 led)
  have ls : l < s.heap.objs.size := by
    obtain ⟨o, ho, _⟩ := hl
    exact Heap.lt_size ho
  have h3 : A.in1.in1.in1.handled = none := by simp [hh]
  have nI : l ≠ (s.heap.push (set0 led)).objs.size := by
    rw [n1]
    exact Nat.ne_of_lt (Nat.lt_succ_of_lt ls)
  have val : ∀ (i : Nat) (v : Value), its[i]? = some v → ∃ p, ks[i]? = some p ∧ v = .ref p.1 := fun i v hv => by
    rw [← Array.getElem?_toList, hit, List.getElem?_map] at hv
    obtain ⟨p, e1, e2⟩ := Option.map_eq_some_iff.mp hv
    exact ⟨p, e1, e2.symm⟩
  refine loopK ((Walks.list h3 _ l nI its).toS) s.heap.objs.size ?n1 ks isz few val s.heap hk (no_above (Nat.le_refl _)) ?n2 hu (its.size - 0) 0 _ (by omega) (Nat.zero_le _)
    ⟨⟨_, Heap.get?_push_size _ rfl, rfl, rfl⟩, (hl1.push _)⟩ (fun b o e => Heap.get?_push_of_some _ (Heap.get?_push_of_some _ e)) ⟨[], #[], 0, _, setK_new (Heap.get?_push_of_some _ g1), Had.nil ks⟩ ?n3
  case n1 =>
    rw [n1]
    simp only [List.mem_cons, List.not_mem_nil, or_false, not_or]
    exact ⟨Nat.ne_of_lt (Nat.lt_succ_self _), Nat.ne_of_gt ls⟩
  case n2 =>
    intro b hb
    rw [List.mem_singleton.mp hb, n1]
    exact no_above (Nat.le_succ _)
  case n3 =>
    intro s' L es ep t mv hS g k
    obtain ⟨h', g2, d', tk', os'⟩ := s'
    obtain rfl : g2 = s.gens := mv.gens
    obtain rfl : d' = s.drawn := mv.drawn
    obtain rfl : os' = s.os := mv.os
    rw [isz] at g
    exact hR h' tk' ⟨L, es, ep, t, hS, g⟩ k
end

/-! ### len(set(xs)) as a rule of the layer -/
/-- how many different ones -/
def many {α : Type} [DecidableEq α] (l : List α) : Nat := l.eraseDups.length
section
variable {X : Cx}
theorem TupK.of {pins : List (Addr × Obj)} {σ : L2.St} {H : Hp} {s : Shared} (I : Inv X pins σ H s) {a : Addr} {k : List Key} (h : SqT X.K H a (k.map kV)) : TupK X.prog X.w s.heap k a := by
  obtain ⟨its, rv, ⟨o, h1, h2, n, h3⟩, z⟩ := I.tuple h
  refine ⟨o, its.toArray, n, h1, h2, h3, ?_⟩
  rw [List.toList_toArray]
  clear h1 h2 h3 h z
  induction k generalizing its with
  | nil =>
    cases rv
    exact .nil
  | cons x k ih =>
    cases rv with
    | cons r t =>
      refine .cons ?_ (ih _ t)
      cases x with
      | inl i =>
        obtain ⟨t, rfl⟩ := r
        exact keyIs_int i t
      | inr z =>
        obtain ⟨t, rfl⟩ := r
        exact keyIs_str z t
/-- F: that there are few -/
def tLenSetG (F : List Row → Prop) (K : PySem.W.Frag) (ta : TE) : TE := fun σ H Q => ta σ H fun x H1 => ∃ (l : Addr) (ks : List Row), x = V.ref l ∧ SqL K H1 l (ks.map fun p => V.ref p.1) ∧ (∀ p, p ∈ ks → SqT K H1 p.1 (p.2.map kV)) ∧ F ks ∧
  ∀ n : Nat, (∀ D : List (List Key), D.Nodup → (∀ k, k ∈ D ↔ k ∈ keysK ks) → D.length = n) → Q (.int n) H1
def tLenSetK (K : PySem.W.Frag) (ta : TE) : TE := tLenSetG (fun ks => ks.length < 64) K ta
theorem nodup_same {α : Type} : ∀ {l m : List α}, l.Nodup → m.Nodup → (∀ x, x ∈ l ↔ x ∈ m) → l.length = m.length := fun h1 h2 h =>
  ((List.perm_ext_iff_of_nodup h1 h2).mpr h).length_eq
theorem pe_lenSetG {F : List Row → Prop} (hF : ∀ ks, F ks → Few ks) {a : Expr} {ta : TE} {p p2 q pos : Pos} (hc : X.calm = true) (hg : Gl X "len") (hm : X.mg "len" = none) (hg2 : Gl X "set") (hm2 : X.mg "set" = none) (ha : PE X a ta) (hu : X.A.units + 64 < cLine)
    (na : starEach [a] X.env = (false, eval a X.env) :: starEach [] X.env := by rfl) : PE X (.Call (.Name "len" p) [.Call (.Name "set" p2) [a] [] q] [] pos) (tLenSetG F X.K ta) := by
  refine ⟨fun pins s σ H Q I h => ?_⟩
  apply Call_ (ld_blt I hg hm PySem.boot_len _)
  apply PyProof.Rows.callWith_builtin1 (PyProof.Rows.args_cons _ rfl) rfl rfl
  apply Call_ (ld_blt I hg2 hm2 PyProof.Rows.boot_set _)
  apply PyProof.Rows.callWith_type1 (PyProof.Rows.args_cons (thn (ha.run pins s σ H _ I h) _) na) na rfl
  rintro v s1 ⟨x, H1, I1, r1, l, ks, rfl, hl, hk, few, q1⟩
  apply PyProof.Rows.args_nil
  cases r1
  obtain ⟨its, rv, pl, hz⟩ := I1.list hl
  have e1 : its = ks.map fun p => Value.ref p.1 := by
    clear hl pl hz hk few q1 I1
    induction ks generalizing its with
    | nil =>
      cases rv
      rfl
    | cons p ks ih =>
      cases rv with
      | cons r t =>
        cases r
        rw [List.map_cons, ih _ t]
  apply call_setK ks (I1.ok.hd hc) pl.isList (by rw [List.toList_toArray, e1]) (fun p hp => TupK.of I1 (hk p hp)) (hF ks few) (by omega)
  intro h' tk L es ep t R g k
  apply PyProof.Rows.args_nil
  have I2 : Inv X pins σ H1 { s1 with heap := h', toks := tk } := I1.kept fun b o e => k b o e
  have ln := rowsK_len R.rws
  have hL : L.length = (keysK L).length := by simp [keysK]
  obtain ⟨o, ho, hex, hd⟩ := R.obj
  have fin := q1 L.length fun D h1 h2 => by
    rw [hL]
    refine nodup_same h1 R.uni fun x => ?_
    rw [h2, keysK, List.mem_map]
    constructor
    · rintro ⟨p, hp, rfl⟩
      exact g.all p (by rw [List.take_length]; exact hp)
    · intro hx
      obtain ⟨p, hp, rfl⟩ := List.mem_map.mp hx
      exact ⟨p, by have := g.sub p hp; rwa [List.take_length] at this, rfl⟩
  have lo := R.low
  exact call_len_set ho hex hd (SetK.fit (s := { s1 with heap := h', toks := tk }) R) (by rw [ln]; omega) ⟨.int L.length, H1, I2.tok _, ⟨_, by rw [ln]⟩, fin⟩
theorem pe_lenSetK {a : Expr} {ta : TE} {p p2 q pos : Pos} (hc : X.calm = true) (hg : Gl X "len") (hm : X.mg "len" = none) (hg2 : Gl X "set") (hm2 : X.mg "set" = none) (ha : PE X a ta) (hu : X.A.units + 64 < cLine)
    (na : starEach [a] X.env = (false, eval a X.env) :: starEach [] X.env := by rfl) : PE X (.Call (.Name "len" p) [.Call (.Name "set" p2) [a] [] q] [] pos) (tLenSetK X.K ta) := pe_lenSetG (F := fun ks => ks.length < 64) (fun _ h => few_of h) hc hg hm hg2 hm2 ha hu na
end
end Kx
/-! len(set(xs)), xs a list of texts. -/
namespace Kx
open PySem PySem.Spec PyProof.Rows L2
/-- how many different ones stand in a list -/
def cnt {α : Type} [DecidableEq α] : List α → Nat
  | [] => 0
  | x :: l => if x ∈ l then cnt l else cnt l + 1
section
variable {P : Program} {w : World} {A : Around} {E : Value → Shared → Prop} {s : Shared}
def inS (xs : List Str) (k : Str) : Bool := decide (k ∈ xs)
theorem cnt_rev_append {α : Type} [DecidableEq α] : ∀ (l : List α) (x : α), cnt (l ++ [x]) = if x ∈ l then cnt l else cnt l + 1
  | [], x => by simp [cnt]
  | y :: l, x => by
    have ih := cnt_rev_append l x
    by_cases h3 : y = x
    · subst h3
      by_cases h1 : y ∈ l <;> simp_all [cnt]
    · have h4 : ¬ x = y := fun e => h3 e.symm
      by_cases h1 : x ∈ l <;> by_cases h2 : y ∈ l <;> simp_all [cnt]
theorem cnt_le {α : Type} [DecidableEq α] : ∀ l : List α, cnt l ≤ l.length
  | [] => Nat.le_refl _
  | x :: l => by
    have := cnt_le l
    unfold cnt
    split <;> simp <;> omega
theorem loopS {I : Addr} {fp wr : List Addr} {G : Array GenState → Array GenState → Prop} {n : Nat} {Pv : Nat → Value → Prop} {St : Nat → Shared → Prop} {R : Result → Shared → Prop}
    (W : WalksS P w A.in1 I fp wr G n Pv St) (S : Addr) (nS : S ∉ fp) (xs : List Str) (hn : n = xs.length) (few : xs.length < 4000) (val : ∀ i v, Pv i v → ∃ x t, xs[i]? = some x ∧ v = .str x t)
    (g0 : Heap) (n0 : g0.get? S = none) (w0 : ∀ b, b ∈ wr → g0.get? b = none) :
    ∀ (m i : Nat) (s : Shared), n - i = m → i ≤ n → St i s → (∀ b o, g0.get? b = some o → s.heap.get? b = some o) → s.heap.SetOf (strKind P w) S (inS (xs.take i)) (cnt (xs.take i)) →
      (∀ s', Moved (S :: wr) G s s' → s'.heap.SetOf (strKind P w) S (inS xs) (cnt xs) → (∀ b o, g0.get? b = some o → s'.heap.get? b = some o) → R (.ok (.ret .none)) s') →
      codeAny (model P w) A (.builtin "set.update.loop" ⟨[.ref S, .ref I], []⟩) R s := by
  have sw : S ∉ wr := fun h => nS (W.sub _ h)
  have up : ∀ b, b ∈ wr → b ∈ S :: wr := fun b hb => List.mem_cons_of_mem _ hb
  have kp : ∀ {s s' : Shared}, Moved wr G s s' → (∀ b o, g0.get? b = some o → s.heap.get? b = some o) → ∀ b o, g0.get? b = some o → s'.heap.get? b = some o := fun hm h b o e =>
    hm.heap b o (fun hb => by rw [w0 b hb] at e; cases e) (h b o e)
  have stay : ∀ {h h' : Heap} {f : Str → Bool} {c : Nat}, h.SetOf (strKind P w) S f c → (∀ o, h.get? S = some o → h'.get? S = some o) → h'.SetOf (strKind P w) S f c := fun ⟨o, es, ep, tb, ho, r⟩ k => ⟨o, es, ep, tb, k o ho, r⟩
  intro m
  induction m with
  | zero =>
    intro i s hm hi hst hkp hS hR
    obtain rfl : i = n := by omega
    apply codeAny_builtin F.entry_set_update_loop
    rw [Around.under_plainId F.plain_set_update_loop _]
    show wpAny _ A.in1 (pyNext (.ref I) >>= _) _ _ s
    apply wpAny_bind (W.done s _ _ hst _)
    intro s' mv
    show wpAny _ A.in1 (ret Value.none) _ _ s'
    rw [hn, List.take_length] at hS
    exact wpAny_pure (hR s' (mv.mono up) (stay hS fun o e => mv.heap S o sw e) (kp mv hkp))
  | succ m ih =>
    intro i s hm hi hst hkp hS hR
    have lt : i < n := by omega
    apply codeAny_builtin F.entry_set_update_loop
    rw [Around.under_plainId F.plain_set_update_loop _]
    show wpAny _ A.in1 (pyNext (.ref I) >>= _) _ _ s
    apply wpAny_bind (W.item i s _ _ lt hst _)
    intro v s' hP hst' mv
    obtain ⟨x, t, hx, rfl⟩ := val i v hP
    have k2 := kp mv hkp
    have hS' := stay hS fun o e => mv.heap S o sw e
    have room : cnt (xs.take i) ≤ i := Nat.le_trans (cnt_le _) (by rw [List.length_take]; omega)
    show wpAny _ A.in1 (holding [Value.str x t] (setAdd S (.str x t)) >>= _) _ _ s'
    apply wpAny_bind (wpAny_holding _)
    unfold setAdd
    apply wpAny_holding
    apply wpAny_bind ((PySem.strKind P w).pyHash (k := x) (strKind_is _ _ _ _) _)
    apply wpAny_setAddHashed_of (knd := PySem.strKind P w) (s := { s' with toks := s'.toks + 1 }) (strKind_is _ _ _ _) rfl hS' (by unfold scanBound; omega)
    intro h' sb hS2
    have k3 : ∀ b o, g0.get? b = some o → h'.get? b = some o := fun b o e => (sb.2 b (fun z => by rw [z, n0] at e; cases e)).trans (k2 b o e)
    have fr := W.frame (i + 1) s' h' (s'.toks + 1) hst' (Nat.le_add_right _ _) fun b hb o e => by
      rw [sb.2 b (fun h : b = S => nS (by rw [← h]; exact hb))]; exact e
    have hS3 : h'.SetOf (PySem.strKind P w) S (inS (xs.take (i + 1))) (cnt (xs.take (i + 1))) := by
      refine SetOf_congr hS2 (fun k => ?_) ?_
      · rw [take_one hx]
        by_cases e : k = x <;> by_cases e2 : k ∈ xs.take i <;> simp [inS, e, e2]
      · rw [take_one hx, cnt_rev_append]
        by_cases e : x ∈ xs.take i <;> simp [inS, e]
    apply wpAny_pure
    refine ⟨plainId_quiet F.plain_set_update_loop _, ih (i + 1) _ (by omega) lt fr k3 hS3 fun s'' mv2 hS4 k4 => ?_⟩
    refine hR s'' (Moved.trans W.gtrans ((mv.mono up).then_heap (Nat.le_add_right _ _) fun b o hb e => ?_) mv2) hS4 k4
    rw [sb.2 b fun h => hb (by rw [h]; exact List.mem_cons_self)]
    exact e
/-- set(xs), xs a list of texts -/
theorem call_setS {l : Addr} {its : Array Value} (xs : List Str) {Q : Value → Shared → Prop} (hh : A.handled = none) (hl : s.heap.IsList l its) (hi : PyProof.Rows.StrsAre its.toList xs) (few : xs.length < 4000)
    (q : ∀ (h' : Heap) (tk : Nat), h'.SetOf (strKind P w) s.heap.objs.size (inS xs) (cnt xs) → (∀ b o, s.heap.get? b = some o → h'.get? b = some o) → Q (.ref s.heap.objs.size) { s with heap := h', toks := tk }) :
    wpAny (model P w) A (call (.type "set") [.ref l]) Q E s := by
  have isz : its.size = xs.length := by rw [← StrsAre.len_eq hi, Array.length_toList]
  refine call_set_gen (fun h' => h'.SetOf (strKind P w) s.heap.objs.size (inS xs) (cnt xs)) hl ⟨?_⟩ ⟨fun h' tk hS k => q h' tk hS k⟩
  intro led R hled hR
  have n1 : (s.heap.push (set0 led)).objs.size = s.heap.objs.size + 1 := Heap.size_push ..
  have g1 : (s.heap.push (set0 led)).get? s.heap.objs.size = some (set0 led) := Heap.get?_push_size _ rfl
  have hl1 := hl.push (set0 led)
  have ls : l < s.heap.objs.size := by
    obtain ⟨o, ho, _⟩ := hl
    exact Heap.lt_size ho
  have h3 : A.in1.in1.in1.handled = none := by simp [hh]
  have nI : l ≠ (s.heap.push (set0 led)).objs.size := by
    rw [n1]
    exact Nat.ne_of_lt (Nat.lt_succ_of_lt ls)
  have val : ∀ (i : Nat) (v : Value), its[i]? = some v → ∃ x t, xs[i]? = some x ∧ v = .str x t := fun i v hv => by
    rw [← Array.getElem?_toList] at hv
    have lt : i < xs.length := by
      rw [← isz, ← Array.length_toList]
      exact (List.getElem?_eq_some_iff.mp hv).1
    obtain ⟨t, e⟩ := SS.strs_at hi i v hv
    exact ⟨xs[i], t, List.getElem?_eq_getElem lt, by rw [e]; simp [List.getD, List.getElem?_eq_getElem lt]⟩
  refine loopS ((Walks.list h3 _ l nI its).toS) s.heap.objs.size ?n1 xs isz few val s.heap (no_above (Nat.le_refl _)) ?n2 (its.size - 0) 0 _ (by omega) (Nat.zero_le _)
    ⟨⟨_, Heap.get?_push_size _ rfl, rfl, rfl⟩, (hl1.push _)⟩ (fun b o e => Heap.get?_push_of_some _ (Heap.get?_push_of_some _ e)) ?n4 ?n3
  case n1 =>
    rw [n1]
    simp only [List.mem_cons, List.not_mem_nil, or_false, not_or]
    exact ⟨Nat.ne_of_lt (Nat.lt_succ_self _), Nat.ne_of_gt ls⟩
  case n2 =>
    intro b hb
    rw [List.mem_singleton.mp hb, n1]
    exact no_above (Nat.le_succ _)
  case n3 =>
    intro s' mv hS k
    obtain ⟨h', g2, d', tk', os'⟩ := s'
    obtain rfl : g2 = s.gens := mv.gens
    obtain rfl : d' = s.drawn := mv.drawn
    obtain rfl : os' = s.os := mv.os
    exact hR h' tk' hS k
  case n4 =>
    refine ⟨set0 led, #[], 0, .fresh 0 0 led, Heap.get?_push_of_some _ g1, ⟨rfl, rfl, rfl⟩, rfl, ?_⟩
    exact ⟨fun e he => (nomatch he), fun k => ⟨fun h => (by simp [inS] at h), fun ⟨e, he, _⟩ => (nomatch he)⟩, (by decide : 0 < scanBound), rfl, by simp [cnt]⟩
end
section
variable {X : Cx}
theorem sAre_of : ∀ {xs : List Str} {us : List Value}, Vals (xs.map V.str) us → StrsAre us xs
  | [], _, .nil => .nil
  | x :: xs, _, .cons r t => by
    obtain ⟨tk, rfl⟩ := r
    exact .cons x tk (sAre_of t)
def tLenSetT (K : PySem.W.Frag) (ta : TE) : TE := fun σ H Q => ta σ H fun x H1 => ∃ (l : Addr) (xs : List Str), x = V.ref l ∧ SqL K H1 l (xs.map V.str) ∧ xs.length < 4000 ∧ Q (.int (cnt xs : Nat)) H1
theorem pe_lenSetT {a : Expr} {ta : TE} {p p2 q pos : Pos} (hc : X.calm = true) (hg : Gl X "len") (hm : X.mg "len" = none) (hg2 : Gl X "set") (hm2 : X.mg "set" = none) (ha : PE X a ta)
    (na : starEach [a] X.env = (false, eval a X.env) :: starEach [] X.env := by rfl) : PE X (.Call (.Name "len" p) [.Call (.Name "set" p2) [a] [] q] [] pos) (tLenSetT X.K ta) := by
  refine ⟨fun pins s σ H Q I h => ?_⟩
  apply Call_ (ld_blt I hg hm PySem.boot_len _)
  apply PyProof.Rows.callWith_builtin1 (PyProof.Rows.args_cons _ rfl) rfl rfl
  apply Call_ (ld_blt I hg2 hm2 PyProof.Rows.boot_set _)
  apply PyProof.Rows.callWith_type1 (PyProof.Rows.args_cons (thn (ha.run pins s σ H _ I h) _) na) na rfl
  rintro v s1 ⟨x, H1, I1, r1, l, xs, rfl, hl, few, q1⟩
  apply PyProof.Rows.args_nil
  cases r1
  obtain ⟨its, rv, pl, hz⟩ := I1.list hl
  apply call_setS xs (I1.ok.hd hc) pl.isList (by rw [List.toList_toArray]; exact sAre_of rv) few
  intro h' tk ⟨o, es, ep, t, ho, hex, hd, _, _, _, hf, hn⟩ k
  apply PyProof.Rows.args_nil
  have I2 : Inv X pins σ H1 { s1 with heap := h', toks := tk } := I1.kept fun b o e => k b o e
  have le := cnt_le xs
  exact call_len_set ho hex hd hf (by rw [hn]; omega) ⟨.int (cnt xs : Nat), H1, I2.tok _, ⟨_, by rw [hn]⟩, q1⟩
end
end Kx
/-! Further rules of the layer. -/
namespace Kx
open PySem PySem.Spec PyProof.Rows L2
section
variable {X : Cx}
/-- a power of a great number -/
theorem op_powX : OpR X (binaryOp .Pow) (rI (fun i j => 0 ≤ j ∧ (Builtin.Int.intBits i : Int) * j ≤ 2 ^ 27) fun i j => .int (i ^ j.toNat)) :=
  opI fun _ _ _ _ _ _ _ hc q => pow_int hc.1 hc.2 q
/-- one item more than a list's -/
theorem meets_extend_tup (l : Addr) (items : Array Value) (n : Nat) (b : Addr) (items2 : Array Value) (n2 : Nat) (od : Option Addr) (osl : Array (Option Value)) (hs0 : ¬(!items.isEmpty && Builtin.List.listTooLong (items.size + items2.size)) = true) (hs1 : items.size ≤ sizeLine) (hs2 : items.size + items2.size ≤ sizeLine + 1) :
    Meets (Builtin.«list.extend» ⟨[.ref l, .ref b], []⟩) (fun _ R s => s.heap.get? l = some { cls := .type "list", dict := none, data := .seq items n, slots := #[] } ∧ s.heap.get? b = some { cls := .type "tuple", dict := od, data := .seq items2 n2, slots := osl } ∧
      R (.ok (.ret Value.none)) { s with heap := s.heap.update l (Obj.mapSeq fun x => x ++ items2), toks := s.toks }) :=
  .of_wp fun prog w A R s h => by
    obtain ⟨hp, g, d, tk, os⟩ := s
    obtain ⟨hl, hb, h⟩ := h
    have f1 := AutoSeq1.idx_int
    have f2 := AutoSeq1.sub_tuple_tuple
    have f3 := AutoSeq1.sub_list_list
    have f4 := AutoSeq1.sub_tuple_list
    have f5 := AutoSeq1.sub_list_tuple
    have hz' : (items ++ items2).size ≤ sizeLine + 1 := by
      rw [Array.size_append]
      exact hs2
    wp_walk using (wpAny_updateSeq hl rfl (hz := hs1) (_hz' := hz')), AutoSeq1.wpAny_loadPart' hl, AutoSeq1.wpAny_loadPart' hb
    exact ⟨_, rfl, h⟩
/-- xs.extend(t), t a tuple -/
def rExtT (K : PySem.W.Frag) : V → List V → Hp → VK → Prop := fun x vs H Q => ∃ l b xs zs, x = .ref l ∧ vs = [.ref b] ∧ H l = some (.lst xs) ∧ SqT K H b zs ∧ xs.length + zs.length ≤ sizeLine ∧ Q .non (upd H l (.lst (xs ++ zs)))
theorem mt_extT : MtM X "list.extend" (rExtT X.K) := by
  intro pins s σ H x vs v us Q I rx rv h
  obtain ⟨l, b, xs, zs, rfl, rfl, hH, hB, hz, q⟩ := h
  cases rx
  obtain ⟨u, rfl, ru⟩ := rv.one
  cases ru
  obtain ⟨z, its, n, r, hl, e⟩ := I.lstM hH
  obtain ⟨its2, r2, ⟨⟨oc, od, odt, osl⟩, e2, hc, n2, hd⟩, z2⟩ := I.tuple hB
  dsimp only at hc hd
  subst hc hd
  have sz : its.toArray.size + its2.toArray.size ≤ sizeLine := by
    rw [List.size_toArray, List.size_toArray, ← r.length, ← r2.length]
    exact hz
  refine call_meets F.slot_list_extend ⟨_, e, rfl⟩ F.entry_list_extend (F.args_list_extend_2 _ _)
    (meets_extend_tup l its.toArray n b its2.toArray n2 od osl ?_ ?_ ?_) ⟨e, e2, ?_⟩
  · rw [notLongL sz, Bool.and_false]
    exact Bool.false_ne_true
  · omega
  · omega
  · refine ⟨.non, _, I.lset (its' := its ++ its2) hH e (by simp) (r.append r2) ?_, rfl, q⟩
    rw [List.length_append]
    exact hz
end
end Kx
/-! Defs that are called where no repr runs: the layer's promise of a def, with that told. -/
namespace Kx
open PySem PySem.Spec PyProof.Rows L2
/-- nothing around A shows itself -/
def Calm (A : Around) : Prop := A.guards = some []
/-- as FnOk, where nothing around shows itself -/
structure FnG (P : Program) (w : World) (K : PySem.W.Frag) (mg : Str → Option Value) (base : Heap) (k : Nat) (f : Addr) (fd : FuncData) (ps : List Str) (sp : Sp) : Prop where
  len : ∀ vs H Q E, sp vs H Q E → vs.length = ps.length
  run : ∀ (A : Around) (outer : List Env) (s : Shared) (H : Hp) (args : Args) (us : List Value) (vs : List V) (Q : VK) (E : XK), Calm A → Room k A → Env0 P w K mg base A outer s H → BindsTo s fd args (ps.zip us) → Vals vs us → sp vs H Q E →
    codeAny (model P w) A (.call (.ref f) args) (CR CX0 outer P w H s Q E) s
theorem calm_deeper {A : Around} {env : Env} (h : Calm A) : Calm (A.deeper env) := by
  unfold Calm at *
  show (A.deeper env).guards = some []
  simp [Around.deeper, h]
section
variable {P : Program} {w : World} {K : PySem.W.Frag} {mg : Str → Option Value} {base : Heap}
theorem fnG_mono {j k : Nat} {f : Addr} {fd : FuncData} {ps : List Str} {sp : Sp} (F : FnG P w K mg base j f fd ps sp) (h : j ≤ k) : FnG P w K mg base k f fd ps sp :=
  ⟨F.len, fun A outer s H args us vs Q E c hr => F.run A outer s H args us vs Q E c (hr.mono h)⟩
/-- THE RULE: a def of the text by its body -/
theorem okG {x qual : Str} {st : Stmt} {f : Addr} {fd : FuncData} {N ps : List Str} {k : Nat} {sp : Sp} (F : Fun K x qual st f fd) (S : FnScope N ps (defScope st)) (len : ∀ vs H Q E, sp vs H Q E → vs.length = ps.length)
    (hbody : ∀ (cdv : Value) (A : Around) (outer : List Env) (s : Shared) (H : Hp) (vs : List V) (Q : VK) (E : XK), Calm (A.deeper (envOfC qual (defScope st) s.heap.objs.size f cdv)) → Room k (A.deeper (envOfC qual (defScope st) s.heap.objs.size f cdv)) → sp vs H Q E →
      ∃ t, PSs (cxOf CX0 P w K mg base N qual (defScope st) f cdv A outer s H E).nox (defBody st) t ∧ t { nx := fun _ H' => Q .non H', rt := Q } (start N vs) H) : FnG P w K mg base (k + 1) f fd ps sp := by
  obtain ⟨oc, od, kV, doc, pm, an, cdv, ct, osl, rfl, lk, hcd⟩ := F.ex
  constructor
  · exact len
  intro A outer s H args us vs Q E cm hr e0 hb r hsp
  have nl := len _ _ _ _ hsp
  have kin : K.In s.heap := e0.mod.kin.keeps fun b o e => (e0.bs b o e).1
  have lim : s.heap.NoLimit := e0.mod.nolimit.keeps fun b o e => (e0.bs b o e).1
  refine codeAny_call_function hr.depth (kin _ _ lk) rfl S.co S.gen rfl (PySem.W.codeRec_of kin hcd) (hb _ _ _ _ (wpAny_newFunctionEnv_cells S.kind ?_ ?_))
  · rintro ⟨n, v⟩ hy
    rcases S.par n (List.of_mem_zip hy).1 with q | q
    · exact .inl q
    · exact .inr ⟨q, PySem.W.cellsFrom_some _ _ _ (.inl q)⟩
  rintro env rfl s1 x
  refine ⟨lim.keeps x.toInCall.keep, codeAny_func ?_⟩
  obtain ⟨t, ht, hq⟩ := hbody cdv A outer s H vs Q E (calm_deeper cm) (hr.deeper _) hsp
  have J0 := inv_start (CX := CX0) (f := f) (cd := cdv) (E := E) (qual := qual) S hr.hd e0 nl r x
  refine wpAny_mono (ht.nox.run [] s1 _ H _ J0 hq) ?_ fun e s' hs => hs
  intro fl s' hs
  rcases fl with _ | _ | _ | u
  · obtain ⟨σ', H', J, q⟩ := hs
    exact ⟨.non, H', J.os, J.bare, J.base, J.hok, rfl, q⟩
  · obtain ⟨_, _, _, q⟩ := hs
    exact q.elim
  · obtain ⟨_, _, _, q⟩ := hs
    exact q.elim
  · obtain ⟨v, σ', H', J, rv, q⟩ := hs
    exact ⟨v, H', J.os, J.bare, J.base, J.hok, rv, q⟩
end
section
variable {X : Cx} {k : Nat} {f : Addr} {fd : FuncData} {ps : List Str} {sp : Sp} {x : Str} {p pos : Pos} {e : Expr} {es : List Expr} {t : TA} {ds : List Value} {dvs : List V} {E : XK}
/-- f(e, ..) for such a def -/
theorem pe_callG (F : FnG X.prog X.w X.K X.mg X.base k f fd ps sp) (cm : Calm X.A) (hr : Room k X.A) (hg : Gl X x) (hm : X.mg x = some (.ref f)) (hk : PySem.W.keepIn X.K (.ref f) = true) (hb : Binds X.K fd ps [])
    (ha : PA X (e :: es) t) (hdb : (x == ("__debug__" : Str)) = false := by decide) (he : starEach (e :: es) X.env = (false, eval e X.env) :: starEach es X.env := by rfl) (hpl : (backTo pos (starEach es X.env)).any (·.1) = false := by rfl) :
    PE X (.Call (.Name x p) (e :: es) [] pos) (tCall sp [] E0 t) := by
  refine ⟨fun pins s σ H Q I h => wpAny_Call_Name_kw (ld_glob I hg hm ?_ hdb)⟩
  refine PySem.W.callWith_K (h₀ := X.base) I.ok.mod.kin hk (thn (ha.run pos pins s σ H _ I h) ?_) he hpl
  rintro us s1 ⟨vs, H1, I1, r, q⟩
  refine ⟨I1.kIn, ?_⟩
  rw [List.append_nil] at q
  have hl : us.length = ps.length := by
    rw [← r.length]
    exact F.len _ _ _ _ q
  have hb' := hb s1 us I1.kIn (by rw [List.append_nil]; exact hl)
  rw [List.append_nil] at hb'
  refine wpAny_call (codeAny_mono (F.run X.A X.stack s1 H1 ⟨us, []⟩ us vs Q E0 cm hr I1.env0 hb' r q) ?_)
  intro r2 s' hq
  rcases r2 with z | fl
  · exact hq.elim
  rcases fl with _ | _ | _ | u
  · exact hq.elim
  · exact hq.elim
  · exact hq.elim
  · exact I1.after hq
end

section
variable {P : Program} {w : World} {K : PySem.W.Frag} {mg mb : Str → Option Value} {k : Nat} {fa a : Addr} {fd : FuncData} {x : Str} {sp : Sp} {s₁ : Shared} {vs : List Value} {ns : List Int}
/-- what the law's call starts from, over an abstract heap H in which the script alone may stand -/
theorem law_from {H : Hp} (hO : Only H) (hS : SqL K H a (ns.map V.int)) (hok : HOk P w H s₁.heap) (hA : ∀ b, H b ≠ none → b = a) (hK : H a ≠ none → K.lookup a = none)
    (KX : K.In s₁.heap) (hns : s₁.heap.Ns mainGlobals mg) (hb : s₁.heap.Ns builtinsNs mb) (hbb : ∀ x : Str, x ≠ "__name__" → mb x = bootBuiltins x) (hlim : s₁.heap.NoLimit) (hg : s₁.gens = #[])
    (ha : s₁.heap.get? a = some { cls := .type "list", data := .seq vs.toArray }) (hr : Room k callerA)
    (F : ∀ base : Heap, K.In base → base.Ns mainGlobals mg → FnG P w K mg base k fa fd [x] sp) (hbind : ∀ (s : Shared) (u : Value), BindsTo s fd ⟨[u], []⟩ [(x, u)])
    (hsp : sp [.ref a] H (fun v _ => v = .bl true) fun _ _ _ => False) :
    codeAny (model P w) callerA (.call (.ref fa) ⟨[.ref a], []⟩) (fun r s' => r = .ok (.ret (.bool true)) ∧ OldK s₁.heap s'.heap ∧ s'.os = s₁.os ∧ AllBare s'.gens) s₁ := by
  have hid : ∀ {b o}, s₁.heap.get? b = some o → H b = none → (hidT s₁.heap H).get? b = some o := fun e n => hidT_get e n
  have free : ∀ {b : Addr} {o : Obj} {es : Array DictEntry} {ep : Nat}, s₁.heap.get? b = some o → o.data = .dict es ep → H b = none := by
    intro b o es ep e d
    cases q : H b with
    | none => rfl
    | some u =>
      have z := hA b (by simp [q])
      subst z
      rw [ha] at e
      cases e
      cases d
  have ns_of : ∀ {b : Addr} {m : Str → Option Value}, s₁.heap.Ns b m → (hidT s₁.heap H).Ns b m := by
    rintro b m ⟨o, es, ep, e, d, r⟩
    exact ⟨o, es, ep, hid e (free e d), d, r⟩
  have kin : K.In (hidT s₁.heap H) := by
    intro b o e
    refine hid (KX b o e) ?_
    cases q : H b with
    | none => rfl
    | some u =>
      have z := hA b (by simp [q])
      subst z
      rw [hK (by simp [q])] at e
      cases e
  have md : Mod K mg (hidT s₁.heap H) := by
    obtain ⟨mc, h1, h2⟩ := hlim
    exact ⟨kin, ns_of hns, ⟨mb, ns_of hb, hbb⟩, mc, ns_of h1, h2⟩
  have e0 : Env0 P w K mg (hidT s₁.heap H) callerA [] s₁ H := ⟨rfl, md, fun b o e => of_hidT e, Nat.le_of_eq (hidT_size _ _), trivial, fun b hb => (nomatch (show b ∈ ([] : List Addr) from hb)), hok, .of_eq hg⟩
  refine codeAny_mono ((F _ kin (ns_of hns)).run callerA [] s₁ H ⟨[.ref a], []⟩ [Value.ref a] [V.ref a] (fun v _ => v = .bl true) (fun _ _ _ => False) rfl hr e0 (hbind s₁ (.ref a)) (.cons rfl .nil) hsp) ?_
  intro r s' h
  rcases r with e | fl
  · exact h.elim
  rcases fl with _ | _ | _ | u
  · exact h.elim
  · exact h.elim
  · exact h.elim
  obtain ⟨v, H', os, bare, un, hok', r', q⟩ := h
  obtain rfl : v = .bl true := q
  obtain rfl : u = Value.bool true := r'
  refine ⟨rfl, OldK.of_keep fun b o e => ?_, os, bare⟩
  cases q : H b with
  | none => exact un.keep b o e q (fun z => (nomatch (show b ∈ ([] : List Addr) from z))) (fun z => nomatch z)
  | some u =>
    rcases hO b with z | ⟨ob, xs, z⟩
    · rw [q] at z
      cases z
    · obtain ⟨e1, _⟩ := hok b _ z
      obtain ⟨e2, _⟩ := hok' b _ (un.frzs b ob _ z)
      rw [e] at e1
      cases e1
      exact e2
theorem law_callG (KX : K.In s₁.heap) (hns : s₁.heap.Ns mainGlobals mg) (hb : s₁.heap.Ns builtinsNs mb) (hbb : ∀ x : Str, x ≠ "__name__" → mb x = bootBuiltins x) (hlim : s₁.heap.NoLimit) (hg : s₁.gens = #[])
    (ha : s₁.heap.get? a = some { cls := .type "list", data := .seq vs.toArray }) (hi : IntsAre vs ns) (hl : ns.length ≤ sizeLine) (hr : Room k callerA)
    (F : ∀ base : Heap, K.In base → base.Ns mainGlobals mg → FnG P w K mg base k fa fd [x] sp) (hbind : ∀ (s : Shared) (u : Value), BindsTo s fd ⟨[u], []⟩ [(x, u)])
    (hsp : ∀ H : Hp, Only H → SqL K H a (ns.map V.int) → sp [.ref a] H (fun v _ => v = .bl true) fun _ _ _ => False) :
    codeAny (model P w) callerA (.call (.ref fa) ⟨[.ref a], []⟩) (fun r s' => r = .ok (.ret (.bool true)) ∧ OldK s₁.heap s'.heap ∧ s'.os = s₁.os ∧ AllBare s'.gens) s₁ := by
  have rv := vals_ints hi
  have nv := hi.length
  cases hk : K.lookup a with
  | some o =>
    have e := KX a o hk
    rw [ha] at e
    cases e
    have S : SqL K (fun _ => none) a (ns.map V.int) := .inr ⟨_, vs.toArray, _, hk, rfl, rfl, rfl, by rw [List.size_toArray, nv]; exact hl, by simpa using rv⟩
    have O : Only (fun _ => none) := fun _ => .inl rfl
    exact law_from (H := fun _ => none) O S (fun b u z => (by cases (show (none : Option HO) = some u from z))) (fun b z => absurd rfl z) (fun z => absurd rfl z) KX hns hb hbb hlim hg ha hr F hbind (hsp _ O S)
  | none =>
    let ob : Obj := { cls := .type "list", data := .seq vs.toArray }
    let H : Hp := fun b => if b = a then some (.frz ob (.lst (ns.map V.int))) else none
    have at_ : H a = some (.frz ob (.lst (ns.map V.int))) := if_pos rfl
    have off : ∀ b, b ≠ a → H b = none := fun b h => if_neg h
    have S : SqL K H a (ns.map V.int) := .inl (.inr ⟨ob, at_⟩)
    have O : Only H := fun b => by
      by_cases h : b = a
      · subst h
        exact .inr ⟨_, _, at_⟩
      · exact .inl (off b h)
    refine law_from O S (fun b u z => ?_) (fun b z => ?_) (fun _ => hk) KX hns hb hbb hlim hg ha hr F hbind (hsp _ O S)
    · by_cases h : b = a
      · subst h
        rw [at_] at z
        cases z
        exact ⟨ha, by rw [List.length_map]; exact hl, vs, _, rv, ha⟩
      · rw [off b h] at z
        cases z
    · by_cases h : b = a
      · exact h
      · exact absurd (off b h) z
end
/-- as walk_of, for such a law -/
theorem walk_ofG {l : PySem.W.OpenLaw} {n k : Nat} {q : Program} {loose : List Str} {XP : (Str → Option Value) → Heap → Prop} {YP : World → Heap → Prop} {d : DefRec} {K : Params → PySem.W.Frag} {sp : World → Sp} {x : Str}
    (hn : l.most = some n) (hn2 : n ≤ sizeLine) (hdf : d.params.defaults = []) (hr : Room k callerA) (hY : ∀ (w : World) (h : Heap), YP w h → (K w.params).In h)
    (F : ∀ (w : World) (mg : Str → Option Value) (fa : Addr) (h : Heap), (K w.params).In h → h.Ns mainGlobals mg → mg d.name = some (.ref fa) →
      ∃ fd : FuncData, (∀ (s : Shared) (u : Value), BindsTo s fd ⟨[u], []⟩ [(x, u)]) ∧ ∀ base : Heap, (K w.params).In base → base.Ns mainGlobals mg → FnG l.prog w (K w.params) mg base k fa fd [x] (sp w))
    (hsp : ∀ (w : World) (H : Hp) (a : Addr) (ns : List Int), ns.length ≤ n → Only H → SqL (K w.params) H a (ns.map V.int) → sp w [.ref a] H (fun v _ => v = .bl true) fun _ _ _ => False) :
    PySem.W.WalkO q loose XP YP l.row.toRowW d [] (fun f vs => PySem.call f vs) := by
  refine Att.attach_call hn hdf ?_
  intro w s₀ s₁ mg mb fa o pm cd doc a vs ns G Y ho hd hcd hmg hobj hints hlen hg
  have KX := hY w _ Y
  obtain ⟨fd, hb, hF⟩ := F w mg fa _ KX G.T.g hmg
  exact law_callG KX G.T.g G.T.b G.T.builtins G.T.nolimit hg hobj hints (Nat.le_trans hlen hn2) hr hF hb fun H hO hS => hsp w H a ns hlen hO hS
end Kx
/-! The text by places, and what its top leaves. Made by mkbase.py. -/
namespace K11
open PySem PySem.Spec PyProof.Rows L2 Kx
def top (i : Nat) : Stmt := PySem.Challenge.pw_shownpart_k11_facts_made.main.body.getD i (.Pass ⟨0, 0, 0, 0⟩)
abbrev s_preorder : Stmt := top 3
abbrev N_preorder : List Str := ["terms", "found", "waiting", "part"]
theorem sc_preorder : FnScope N_preorder ["terms"] (defScope s_preorder) := ⟨rfl, rfl, rfl, by decide +kernel, rfl, by decide +kernel, by decide +kernel⟩
abbrev s_written : Stmt := top 4
abbrev N_written : List Str := ["term", "words", "waiting", "part", "below"]
theorem sc_written : FnScope N_written ["term"] (defScope s_written) := ⟨rfl, rfl, rfl, by decide +kernel, rfl, by decide +kernel, by decide +kernel⟩
abbrev s_numbered_rows : Stmt := top 5
abbrev N_numbered_rows : List Str := ["parts", "table", "ready", "numbers", "part", "below", "number", "_"]
theorem sc_numbered_rows : FnScope N_numbered_rows ["parts"] (defScope s_numbered_rows) := ⟨rfl, rfl, rfl, by decide +kernel, rfl, by decide +kernel, by decide +kernel⟩
abbrev s_sizes_of : Stmt := top 6
abbrev N_sizes_of : List Str := ["rows", "sizes", "row", "number"]
theorem sc_sizes_of : FnScope N_sizes_of ["rows"] (defScope s_sizes_of) := ⟨rfl, rfl, rfl, by decide +kernel, rfl, by decide +kernel, by decide +kernel⟩
abbrev s_ascending : Stmt := top 7
abbrev N_ascending : List Str := ["terms", "parts", "numbers", "rows", "found", "number", "part"]
theorem sc_ascending : FnScope N_ascending ["terms"] (defScope s_ascending) := ⟨rfl, rfl, rfl, by decide +kernel, rfl, by decide +kernel, by decide +kernel⟩
abbrev s_order_of : Stmt := top 8
abbrev N_order_of : List Str := ["rows", "texts", "row", "below", "found", "number", "text"]
theorem sc_order_of : FnScope N_order_of ["rows"] (defScope s_order_of) := ⟨rfl, rfl, rfl, by decide +kernel, rfl, by decide +kernel, by decide +kernel⟩
abbrev s_order_by_ranks : Stmt := top 9
abbrev N_order_by_ranks : List Str := ["rows", "number", "inner", "waiting", "numbers", "rank", "places", "found", "row", "k"]
theorem sc_order_by_ranks : FnScope N_order_by_ranks ["rows"] (defScope s_order_by_ranks) := ⟨rfl, rfl, rfl, by decide +kernel, rfl, by decide +kernel, by decide +kernel⟩
abbrev s_ranked : Stmt := top 10
abbrev N_ranked : List Str := ["names", "many", "width", "ranks", "further", "k"]
theorem sc_ranked : FnScope N_ranked ["names"] (defScope s_ranked) := ⟨rfl, rfl, rfl, by decide +kernel, rfl, by decide +kernel, by decide +kernel⟩
abbrev s_dense : Stmt := top 11
abbrev N_dense : List Str := ["keys", "ranks", "rank", "key"]
theorem sc_dense : FnScope N_dense ["keys"] (defScope s_dense) := ⟨rfl, rfl, rfl, by decide +kernel, rfl, by decide +kernel, by decide +kernel⟩
abbrev s_is_name : Stmt := top 20
abbrev N_is_name : List Str := ["value"]
theorem sc_is_name : FnScope N_is_name ["value"] (defScope s_is_name) := ⟨rfl, rfl, rfl, by decide +kernel, rfl, by decide +kernel, by decide +kernel⟩
abbrev s_is_term : Stmt := top 21
abbrev N_is_term : List Str := ["value"]
theorem sc_is_term : FnScope N_is_term ["value"] (defScope s_is_term) := ⟨rfl, rfl, rfl, by decide +kernel, rfl, by decide +kernel, by decide +kernel⟩
abbrev s_check_term : Stmt := top 22
abbrev N_check_term : List Str := ["value"]
theorem sc_check_term : FnScope N_check_term ["value"] (defScope s_check_term) := ⟨rfl, rfl, rfl, by decide +kernel, rfl, by decide +kernel, by decide +kernel⟩
abbrev s_joint_places : Stmt := top 23
abbrev N_joint_places : List Str := ["values", "places", "waiting", "part", "many"]
theorem sc_joint_places : FnScope N_joint_places ["values"] (defScope s_joint_places) := ⟨rfl, rfl, rfl, by decide +kernel, rfl, by decide +kernel, by decide +kernel⟩
abbrev s_has_form : Stmt := top 24
abbrev N_has_form : List Str := ["value"]
theorem sc_has_form : FnScope N_has_form ["value"] (defScope s_has_form) := ⟨rfl, rfl, rfl, by decide +kernel, rfl, by decide +kernel, by decide +kernel⟩
abbrev s_by_name : Stmt := top 25
abbrev N_by_name : List Str := ["places", "name"]
theorem sc_by_name : FnScope N_by_name ["places"] (defScope s_by_name) := ⟨rfl, rfl, rfl, by decide +kernel, rfl, by decide +kernel, by decide +kernel⟩
abbrev s_is_pair : Stmt := top 27
abbrev N_is_pair : List Str := ["value"]
theorem sc_is_pair : FnScope N_is_pair ["value"] (defScope s_is_pair) := ⟨rfl, rfl, rfl, by decide +kernel, rfl, by decide +kernel, by decide +kernel⟩
abbrev s_is_fact : Stmt := top 28
abbrev N_is_fact : List Str := ["value", "pairs", "keys", "pair", "key", "further"]
theorem sc_is_fact : FnScope N_is_fact ["value"] (defScope s_is_fact) := ⟨rfl, rfl, rfl, by decide +kernel, rfl, by decide +kernel, by decide +kernel⟩
abbrev s_make_pair : Stmt := top 29
abbrev N_make_pair : List Str := ["term", "other", "pairs"]
theorem sc_make_pair : FnScope N_make_pair ["term", "other"] (defScope s_make_pair) := ⟨rfl, rfl, rfl, by decide +kernel, rfl, by decide +kernel, by decide +kernel⟩
abbrev s_make_fact : Stmt := top 30
abbrev N_make_fact : List Str := ["conclusion", "conditions", "couples", "result"]
theorem sc_make_fact : FnScope N_make_fact ["conclusion", "conditions"] (defScope s_make_fact) := ⟨rfl, rfl, rfl, by decide +kernel, rfl, by decide +kernel, by decide +kernel⟩
abbrev s_places_in : Stmt := top 31
abbrev N_places_in : List Str := ["fact"]
theorem sc_places_in : FnScope N_places_in ["fact"] (defScope s_places_in) := ⟨rfl, rfl, rfl, by decide +kernel, rfl, by decide +kernel, by decide +kernel⟩
abbrev s_terms_of : Stmt := top 32
abbrev N_terms_of : List Str := ["fact", "terms", "term", "key"]
theorem sc_terms_of : FnScope N_terms_of ["fact"] (defScope s_terms_of) := ⟨rfl, rfl, rfl, by decide +kernel, rfl, by decide +kernel, by decide +kernel⟩
abbrev s_nodes_of : Stmt := top 33
abbrev N_nodes_of : List Str := ["fact"]
theorem sc_nodes_of : FnScope N_nodes_of ["fact"] (defScope s_nodes_of) := ⟨rfl, rfl, rfl, by decide +kernel, rfl, by decide +kernel, by decide +kernel⟩
abbrev s_check_fact : Stmt := top 34
abbrev N_check_fact : List Str := ["value"]
theorem sc_check_fact : FnScope N_check_fact ["value"] (defScope s_check_fact) := ⟨rfl, rfl, rfl, by decide +kernel, rfl, by decide +kernel, by decide +kernel⟩
abbrev s_is_couple : Stmt := top 35
abbrev N_is_couple : List Str := ["value"]
theorem sc_is_couple : FnScope N_is_couple ["value"] (defScope s_is_couple) := ⟨rfl, rfl, rfl, by decide +kernel, rfl, by decide +kernel, by decide +kernel⟩
abbrev s_are_couples : Stmt := top 36
abbrev N_are_couples : List Str := ["values", "value"]
theorem sc_are_couples : FnScope N_are_couples ["values"] (defScope s_are_couples) := ⟨rfl, rfl, rfl, by decide +kernel, rfl, by decide +kernel, by decide +kernel⟩
abbrev s_is_ordered : Stmt := top 37
abbrev N_is_ordered : List Str := ["couple", "one", "other"]
theorem sc_is_ordered : FnScope N_is_ordered ["couple"] (defScope s_is_ordered) := ⟨rfl, rfl, rfl, by decide +kernel, rfl, by decide +kernel, by decide +kernel⟩
abbrev s_key_of : Stmt := top 38
abbrev N_key_of : List Str := ["couple"]
theorem sc_key_of : FnScope N_key_of ["couple"] (defScope s_key_of) := ⟨rfl, rfl, rfl, by decide +kernel, rfl, by decide +kernel, by decide +kernel⟩
abbrev s_sides_of : Stmt := top 39
abbrev N_sides_of : List Str := ["couples", "couple", "term"]
theorem sc_sides_of : FnScope N_sides_of ["couples"] (defScope s_sides_of) := ⟨rfl, rfl, rfl, by decide +kernel, rfl, by decide +kernel, by decide +kernel⟩
abbrev s_pairs_in : Stmt := top 40
abbrev N_pairs_in : List Str := ["fact"]
theorem sc_pairs_in : FnScope N_pairs_in ["fact"] (defScope s_pairs_in) := ⟨rfl, rfl, rfl, by decide +kernel, rfl, by decide +kernel, by decide +kernel⟩
abbrev s_pairs_of : Stmt := top 41
abbrev N_pairs_of : List Str := ["couples", "found", "one", "other", "first", "second", "key"]
theorem sc_pairs_of : FnScope N_pairs_of ["couples"] (defScope s_pairs_of) := ⟨rfl, rfl, rfl, by decide +kernel, rfl, by decide +kernel, by decide +kernel⟩
abbrev s_fact_of : Stmt := top 42
abbrev N_fact_of : List Str := ["conclusion", "conditions", "pairs", "last"]
theorem sc_fact_of : FnScope N_fact_of ["conclusion", "conditions"] (defScope s_fact_of) := ⟨rfl, rfl, rfl, by decide +kernel, rfl, by decide +kernel, by decide +kernel⟩
abbrev s__law_dice : Stmt := top 44
abbrev N__law_dice : List Str := ["script", "spot", "cell", "great", "mixed"]
theorem sc__law_dice : FnScope N__law_dice ["script", "spot"] (defScope s__law_dice) := ⟨rfl, rfl, rfl, by decide +kernel, rfl, by decide +kernel, by decide +kernel⟩
abbrev s__law_roll : Stmt := top 45
abbrev N__law_roll : List Str := ["dice", "top", "found", "one", "two"]
theorem sc__law_roll : FnScope N__law_roll ["dice", "top"] (defScope s__law_roll) := ⟨rfl, rfl, rfl, by decide +kernel, rfl, by decide +kernel, by decide +kernel⟩
abbrev s__law_pick : Stmt := top 46
abbrev N__law_pick : List Str := ["dice", "items"]
theorem sc__law_pick : FnScope N__law_pick ["dice", "items"] (defScope s__law_pick) := ⟨rfl, rfl, rfl, by decide +kernel, rfl, by decide +kernel, by decide +kernel⟩
abbrev s__law_mixed : Stmt := top 47
abbrev N__law_mixed : List Str := ["dice", "items", "left", "found"]
theorem sc__law_mixed : FnScope N__law_mixed ["dice", "items"] (defScope s__law_mixed) := ⟨rfl, rfl, rfl, by decide +kernel, rfl, by decide +kernel, by decide +kernel⟩
abbrev s__law_text : Stmt := top 48
abbrev N__law_text : List Str := ["term", "part"]
theorem sc__law_text : FnScope N__law_text ["term"] (defScope s__law_text) := ⟨rfl, rfl, rfl, by decide +kernel, rfl, by decide +kernel, by decide +kernel⟩
abbrev s__law_below : Stmt := top 49
abbrev N__law_below : List Str := ["term", "found", "part"]
theorem sc__law_below : FnScope N__law_below ["term"] (defScope s__law_below) := ⟨rfl, rfl, rfl, by decide +kernel, rfl, by decide +kernel, by decide +kernel⟩
abbrev s__law_pair : Stmt := top 50
abbrev N__law_pair : List Str := ["one", "other"]
theorem sc__law_pair : FnScope N__law_pair ["one", "other"] (defScope s__law_pair) := ⟨rfl, rfl, rfl, by decide +kernel, rfl, by decide +kernel, by decide +kernel⟩
abbrev s__law_terms_in : Stmt := top 51
abbrev N__law_terms_in : List Str := ["facts", "found", "conditions", "conclusion", "pair"]
theorem sc__law_terms_in : FnScope N__law_terms_in ["facts"] (defScope s__law_terms_in) := ⟨rfl, rfl, rfl, by decide +kernel, rfl, by decide +kernel, by decide +kernel⟩
abbrev s__law_names : Stmt := top 52
abbrev N__law_names : List Str := ["dice", "few", "pools", "cells", "name", "found"]
theorem sc__law_names : FnScope N__law_names ["dice", "few"] (defScope s__law_names) := ⟨rfl, rfl, rfl, by decide +kernel, rfl, by decide +kernel, by decide +kernel⟩
abbrev s__law_term : Stmt := top 53
abbrev N__law_term : List Str := ["dice", "names", "deep", "some", "name", "places", "row", "turn"]
theorem sc__law_term : FnScope N__law_term ["dice", "names", "deep"] (defScope s__law_term) := ⟨rfl, rfl, rfl, by decide +kernel, rfl, by decide +kernel, by decide +kernel⟩
abbrev s__law_drawn_pair : Stmt := top 54
abbrev N__law_drawn_pair : List Str := ["dice", "names", "deep", "turn", "one", "other", "some", "name", "places"]
theorem sc__law_drawn_pair : FnScope N__law_drawn_pair ["dice", "names", "deep"] (defScope s__law_drawn_pair) := ⟨rfl, rfl, rfl, by decide +kernel, rfl, by decide +kernel, by decide +kernel⟩
abbrev s__law_raw : Stmt := top 55
abbrev N__law_raw : List Str := ["dice", "known", "found", "turn", "one", "other", "way"]
theorem sc__law_raw : FnScope N__law_raw ["dice", "known"] (defScope s__law_raw) := ⟨rfl, rfl, rfl, by decide +kernel, rfl, by decide +kernel, by decide +kernel⟩
abbrev s__law_due : Stmt := top 56
abbrev N__law_due : List Str := ["told", "raw", "kept", "one", "other", "pair", "conditions", "key"]
theorem sc__law_due : FnScope N__law_due ["told", "raw"] (defScope s__law_due) := ⟨rfl, rfl, rfl, by decide +kernel, rfl, by decide +kernel, by decide +kernel⟩
abbrev s__law_once : Stmt := top 57
abbrev N__law_once : List Str := ["terms", "kept", "one", "key"]
theorem sc__law_once : FnScope N__law_once ["terms"] (defScope s__law_once) := ⟨rfl, rfl, rfl, by decide +kernel, rfl, by decide +kernel, by decide +kernel⟩
abbrev s__law_made_right : Stmt := top 58
abbrev N__law_made_right : List Str := ["dice", "known", "raw", "told", "one", "other", "some", "due", "terms", "parts", "counts"]
theorem sc__law_made_right : FnScope N__law_made_right ["dice"] (defScope s__law_made_right) := ⟨rfl, rfl, rfl, by decide +kernel, rfl, by decide +kernel, by decide +kernel⟩
abbrev s__law_ten : Stmt := top 59
abbrev N__law_ten : List Str := ["told", "some", "one", "two", "three", "four", "five", "six"]
theorem sc__law_ten : FnScope N__law_ten ["told", "some"] (defScope s__law_ten) := ⟨rfl, rfl, rfl, by decide +kernel, rfl, by decide +kernel, by decide +kernel⟩
abbrev s__law_judged_right : Stmt := top 60
abbrev N__law_judged_right : List Str := ["due", "conditions", "told", "one", "other"]
theorem sc__law_judged_right : FnScope N__law_judged_right ["due"] (defScope s__law_judged_right) := ⟨rfl, rfl, rfl, by decide +kernel, rfl, by decide +kernel, by decide +kernel⟩
abbrev s_law : Stmt := top 61
abbrev N_law : List Str := ["script", "at", "dice", "turn", "unlike", "apart"]
theorem sc_law : FnScope N_law ["script"] (defScope s_law) := ⟨rfl, rfl, rfl, by decide +kernel, rfl, by decide +kernel, by decide +kernel⟩
/-- what the top leaves -/
structure Tx (K : PySem.W.Frag) (mg : Str → Option Value) where
  b_abs : mg "abs" = none
  b_all : mg "all" = none
  b_dict : mg "dict" = none
  b_enumerate : mg "enumerate" = none
  b_int : mg "int" = none
  b_isinstance : mg "isinstance" = none
  b_len : mg "len" = none
  b_list : mg "list" = none
  b_max : mg "max" = none
  b_min : mg "min" = none
  b_range : mg "range" = none
  b_set : mg "set" = none
  b_sorted : mg "sorted" = none
  b_str : mg "str" = none
  b_sum : mg "sum" = none
  b_tuple : mg "tuple" = none
  b_zip : mg "zip" = none
  CInvalidTerm : Addr
  gInvalidTerm : mg "InvalidTerm" = some (.ref CInvalidTerm)
  xInvalidTerm : PySem.W.excIn K CInvalidTerm [.type "ValueError", .type "Exception", .type "BaseException", .type "object"] "ValueError.__new__" = true
  kInvalidTerm : PySem.W.keepIn K (.ref CInvalidTerm) = true
  bInvalidTerm : PySem.W.subIn K (.ref CInvalidTerm) (.type "BaseException") = some true
  tInvalidTerm : PySem.W.typeIn K (.ref CInvalidTerm) = some (.type "type")
  eInvalidTerm : PySem.W.exmOne K (.ref CInvalidTerm) (.ref CInvalidTerm) = some true
  CInvalidFact : Addr
  gInvalidFact : mg "InvalidFact" = some (.ref CInvalidFact)
  xInvalidFact : PySem.W.excIn K CInvalidFact [.type "ValueError", .type "Exception", .type "BaseException", .type "object"] "ValueError.__new__" = true
  kInvalidFact : PySem.W.keepIn K (.ref CInvalidFact) = true
  bInvalidFact : PySem.W.subIn K (.ref CInvalidFact) (.type "BaseException") = some true
  tInvalidFact : PySem.W.typeIn K (.ref CInvalidFact) = some (.type "type")
  eInvalidFact : PySem.W.exmOne K (.ref CInvalidFact) (.ref CInvalidFact) = some true
  CInvalidOperation : Addr
  gInvalidOperation : mg "InvalidOperation" = some (.ref CInvalidOperation)
  xInvalidOperation : PySem.W.excIn K CInvalidOperation [.type "ValueError", .type "Exception", .type "BaseException", .type "object"] "ValueError.__new__" = true
  kInvalidOperation : PySem.W.keepIn K (.ref CInvalidOperation) = true
  bInvalidOperation : PySem.W.subIn K (.ref CInvalidOperation) (.type "BaseException") = some true
  tInvalidOperation : PySem.W.typeIn K (.ref CInvalidOperation) = some (.type "type")
  eInvalidOperation : PySem.W.exmOne K (.ref CInvalidOperation) (.ref CInvalidOperation) = some true
  c_FIRST_WIDTH : ∃ t, mg "FIRST_WIDTH" = some (.int 16 t)
  c_MANY_PARTS : ∃ t, mg "MANY_PARTS" = some (.int 100000 t)
  c_MAX_PLACES : ∃ t, mg "MAX_PLACES" = some (.int 3 t)
  c_LONGEST_NAME : ∃ t, mg "LONGEST_NAME" = some (.int 8 t)
  apreorder : Addr
  dpreorder : FuncData
  fpreorder : Fun K "preorder" "preorder" s_preorder apreorder dpreorder
  npreorder : Binds K dpreorder ["terms"] []
  gpreorder : mg "preorder" = some (.ref apreorder)
  awritten : Addr
  dwritten : FuncData
  fwritten : Fun K "written" "written" s_written awritten dwritten
  nwritten : Binds K dwritten ["term"] []
  gwritten : mg "written" = some (.ref awritten)
  anumbered_rows : Addr
  dnumbered_rows : FuncData
  fnumbered_rows : Fun K "numbered_rows" "numbered_rows" s_numbered_rows anumbered_rows dnumbered_rows
  nnumbered_rows : Binds K dnumbered_rows ["parts"] []
  gnumbered_rows : mg "numbered_rows" = some (.ref anumbered_rows)
  asizes_of : Addr
  dsizes_of : FuncData
  fsizes_of : Fun K "sizes_of" "sizes_of" s_sizes_of asizes_of dsizes_of
  nsizes_of : Binds K dsizes_of ["rows"] []
  gsizes_of : mg "sizes_of" = some (.ref asizes_of)
  aascending : Addr
  dascending : FuncData
  fascending : Fun K "ascending" "ascending" s_ascending aascending dascending
  nascending : Binds K dascending ["terms"] []
  gascending : mg "ascending" = some (.ref aascending)
  aorder_of : Addr
  dorder_of : FuncData
  forder_of : Fun K "order_of" "order_of" s_order_of aorder_of dorder_of
  norder_of : Binds K dorder_of ["rows"] []
  gorder_of : mg "order_of" = some (.ref aorder_of)
  aorder_by_ranks : Addr
  dorder_by_ranks : FuncData
  forder_by_ranks : Fun K "order_by_ranks" "order_by_ranks" s_order_by_ranks aorder_by_ranks dorder_by_ranks
  norder_by_ranks : Binds K dorder_by_ranks ["rows"] []
  gorder_by_ranks : mg "order_by_ranks" = some (.ref aorder_by_ranks)
  aranked : Addr
  dranked : FuncData
  franked : Fun K "ranked" "ranked" s_ranked aranked dranked
  nranked : Binds K dranked ["names"] []
  granked : mg "ranked" = some (.ref aranked)
  adense : Addr
  ddense : FuncData
  fdense : Fun K "dense" "dense" s_dense adense ddense
  ndense : Binds K ddense ["keys"] []
  gdense : mg "dense" = some (.ref adense)
  ais_name : Addr
  dis_name : FuncData
  fis_name : Fun K "is_name" "is_name" s_is_name ais_name dis_name
  nis_name : Binds K dis_name ["value"] []
  gis_name : mg "is_name" = some (.ref ais_name)
  ais_term : Addr
  dis_term : FuncData
  fis_term : Fun K "is_term" "is_term" s_is_term ais_term dis_term
  nis_term : Binds K dis_term ["value"] []
  gis_term : mg "is_term" = some (.ref ais_term)
  acheck_term : Addr
  dcheck_term : FuncData
  fcheck_term : Fun K "check_term" "check_term" s_check_term acheck_term dcheck_term
  ncheck_term : Binds K dcheck_term ["value"] []
  gcheck_term : mg "check_term" = some (.ref acheck_term)
  ajoint_places : Addr
  djoint_places : FuncData
  fjoint_places : Fun K "joint_places" "joint_places" s_joint_places ajoint_places djoint_places
  njoint_places : Binds K djoint_places ["values"] []
  gjoint_places : mg "joint_places" = some (.ref ajoint_places)
  ahas_form : Addr
  dhas_form : FuncData
  fhas_form : Fun K "has_form" "has_form" s_has_form ahas_form dhas_form
  nhas_form : Binds K dhas_form ["value"] []
  ghas_form : mg "has_form" = some (.ref ahas_form)
  aby_name : Addr
  dby_name : FuncData
  fby_name : Fun K "by_name" "by_name" s_by_name aby_name dby_name
  nby_name : Binds K dby_name ["places"] []
  gby_name : mg "by_name" = some (.ref aby_name)
  ais_pair : Addr
  dis_pair : FuncData
  fis_pair : Fun K "is_pair" "is_pair" s_is_pair ais_pair dis_pair
  nis_pair : Binds K dis_pair ["value"] []
  gis_pair : mg "is_pair" = some (.ref ais_pair)
  ais_fact : Addr
  dis_fact : FuncData
  fis_fact : Fun K "is_fact" "is_fact" s_is_fact ais_fact dis_fact
  nis_fact : Binds K dis_fact ["value"] []
  gis_fact : mg "is_fact" = some (.ref ais_fact)
  amake_pair : Addr
  dmake_pair : FuncData
  fmake_pair : Fun K "make_pair" "make_pair" s_make_pair amake_pair dmake_pair
  nmake_pair : Binds K dmake_pair ["term", "other"] []
  gmake_pair : mg "make_pair" = some (.ref amake_pair)
  amake_fact : Addr
  dmake_fact : FuncData
  fmake_fact : Fun K "make_fact" "make_fact" s_make_fact amake_fact dmake_fact
  gmake_fact : mg "make_fact" = some (.ref amake_fact)
  aplaces_in : Addr
  dplaces_in : FuncData
  fplaces_in : Fun K "places_in" "places_in" s_places_in aplaces_in dplaces_in
  nplaces_in : Binds K dplaces_in ["fact"] []
  gplaces_in : mg "places_in" = some (.ref aplaces_in)
  aterms_of : Addr
  dterms_of : FuncData
  fterms_of : Fun K "terms_of" "terms_of" s_terms_of aterms_of dterms_of
  nterms_of : Binds K dterms_of ["fact"] []
  gterms_of : mg "terms_of" = some (.ref aterms_of)
  anodes_of : Addr
  dnodes_of : FuncData
  fnodes_of : Fun K "nodes_of" "nodes_of" s_nodes_of anodes_of dnodes_of
  nnodes_of : Binds K dnodes_of ["fact"] []
  gnodes_of : mg "nodes_of" = some (.ref anodes_of)
  acheck_fact : Addr
  dcheck_fact : FuncData
  fcheck_fact : Fun K "check_fact" "check_fact" s_check_fact acheck_fact dcheck_fact
  ncheck_fact : Binds K dcheck_fact ["value"] []
  gcheck_fact : mg "check_fact" = some (.ref acheck_fact)
  ais_couple : Addr
  dis_couple : FuncData
  fis_couple : Fun K "is_couple" "is_couple" s_is_couple ais_couple dis_couple
  nis_couple : Binds K dis_couple ["value"] []
  gis_couple : mg "is_couple" = some (.ref ais_couple)
  aare_couples : Addr
  dare_couples : FuncData
  fare_couples : Fun K "are_couples" "are_couples" s_are_couples aare_couples dare_couples
  nare_couples : Binds K dare_couples ["values"] []
  gare_couples : mg "are_couples" = some (.ref aare_couples)
  ais_ordered : Addr
  dis_ordered : FuncData
  fis_ordered : Fun K "is_ordered" "is_ordered" s_is_ordered ais_ordered dis_ordered
  nis_ordered : Binds K dis_ordered ["couple"] []
  gis_ordered : mg "is_ordered" = some (.ref ais_ordered)
  akey_of : Addr
  dkey_of : FuncData
  fkey_of : Fun K "key_of" "key_of" s_key_of akey_of dkey_of
  nkey_of : Binds K dkey_of ["couple"] []
  gkey_of : mg "key_of" = some (.ref akey_of)
  asides_of : Addr
  dsides_of : FuncData
  fsides_of : Fun K "sides_of" "sides_of" s_sides_of asides_of dsides_of
  nsides_of : Binds K dsides_of ["couples"] []
  gsides_of : mg "sides_of" = some (.ref asides_of)
  apairs_in : Addr
  dpairs_in : FuncData
  fpairs_in : Fun K "pairs_in" "pairs_in" s_pairs_in apairs_in dpairs_in
  npairs_in : Binds K dpairs_in ["fact"] []
  gpairs_in : mg "pairs_in" = some (.ref apairs_in)
  apairs_of : Addr
  dpairs_of : FuncData
  fpairs_of : Fun K "pairs_of" "pairs_of" s_pairs_of apairs_of dpairs_of
  npairs_of : Binds K dpairs_of ["couples"] []
  gpairs_of : mg "pairs_of" = some (.ref apairs_of)
  afact_of : Addr
  dfact_of : FuncData
  ffact_of : Fun K "fact_of" "fact_of" s_fact_of afact_of dfact_of
  nfact_of : Binds K dfact_of ["conclusion", "conditions"] []
  gfact_of : mg "fact_of" = some (.ref afact_of)
  a_law_dice : Addr
  d_law_dice : FuncData
  f_law_dice : Fun K "_law_dice" "_law_dice" s__law_dice a_law_dice d_law_dice
  n_law_dice : Binds K d_law_dice ["script", "spot"] []
  g_law_dice : mg "_law_dice" = some (.ref a_law_dice)
  a_law_roll : Addr
  d_law_roll : FuncData
  f_law_roll : Fun K "_law_roll" "_law_roll" s__law_roll a_law_roll d_law_roll
  n_law_roll : Binds K d_law_roll ["dice", "top"] []
  g_law_roll : mg "_law_roll" = some (.ref a_law_roll)
  a_law_pick : Addr
  d_law_pick : FuncData
  f_law_pick : Fun K "_law_pick" "_law_pick" s__law_pick a_law_pick d_law_pick
  n_law_pick : Binds K d_law_pick ["dice", "items"] []
  g_law_pick : mg "_law_pick" = some (.ref a_law_pick)
  a_law_mixed : Addr
  d_law_mixed : FuncData
  f_law_mixed : Fun K "_law_mixed" "_law_mixed" s__law_mixed a_law_mixed d_law_mixed
  n_law_mixed : Binds K d_law_mixed ["dice", "items"] []
  g_law_mixed : mg "_law_mixed" = some (.ref a_law_mixed)
  a_law_text : Addr
  d_law_text : FuncData
  f_law_text : Fun K "_law_text" "_law_text" s__law_text a_law_text d_law_text
  n_law_text : Binds K d_law_text ["term"] []
  g_law_text : mg "_law_text" = some (.ref a_law_text)
  a_law_below : Addr
  d_law_below : FuncData
  f_law_below : Fun K "_law_below" "_law_below" s__law_below a_law_below d_law_below
  n_law_below : Binds K d_law_below ["term"] []
  g_law_below : mg "_law_below" = some (.ref a_law_below)
  a_law_pair : Addr
  d_law_pair : FuncData
  f_law_pair : Fun K "_law_pair" "_law_pair" s__law_pair a_law_pair d_law_pair
  n_law_pair : Binds K d_law_pair ["one", "other"] []
  g_law_pair : mg "_law_pair" = some (.ref a_law_pair)
  a_law_terms_in : Addr
  d_law_terms_in : FuncData
  f_law_terms_in : Fun K "_law_terms_in" "_law_terms_in" s__law_terms_in a_law_terms_in d_law_terms_in
  n_law_terms_in : Binds K d_law_terms_in ["facts"] []
  g_law_terms_in : mg "_law_terms_in" = some (.ref a_law_terms_in)
  a_law_names : Addr
  d_law_names : FuncData
  f_law_names : Fun K "_law_names" "_law_names" s__law_names a_law_names d_law_names
  n_law_names : Binds K d_law_names ["dice", "few"] []
  g_law_names : mg "_law_names" = some (.ref a_law_names)
  a_law_term : Addr
  d_law_term : FuncData
  f_law_term : Fun K "_law_term" "_law_term" s__law_term a_law_term d_law_term
  n_law_term : Binds K d_law_term ["dice", "names", "deep"] []
  g_law_term : mg "_law_term" = some (.ref a_law_term)
  a_law_drawn_pair : Addr
  d_law_drawn_pair : FuncData
  f_law_drawn_pair : Fun K "_law_drawn_pair" "_law_drawn_pair" s__law_drawn_pair a_law_drawn_pair d_law_drawn_pair
  n_law_drawn_pair : Binds K d_law_drawn_pair ["dice", "names", "deep"] []
  g_law_drawn_pair : mg "_law_drawn_pair" = some (.ref a_law_drawn_pair)
  a_law_raw : Addr
  d_law_raw : FuncData
  f_law_raw : Fun K "_law_raw" "_law_raw" s__law_raw a_law_raw d_law_raw
  n_law_raw : Binds K d_law_raw ["dice", "known"] []
  g_law_raw : mg "_law_raw" = some (.ref a_law_raw)
  a_law_due : Addr
  d_law_due : FuncData
  f_law_due : Fun K "_law_due" "_law_due" s__law_due a_law_due d_law_due
  n_law_due : Binds K d_law_due ["told", "raw"] []
  g_law_due : mg "_law_due" = some (.ref a_law_due)
  a_law_once : Addr
  d_law_once : FuncData
  f_law_once : Fun K "_law_once" "_law_once" s__law_once a_law_once d_law_once
  n_law_once : Binds K d_law_once ["terms"] []
  g_law_once : mg "_law_once" = some (.ref a_law_once)
  a_law_made_right : Addr
  d_law_made_right : FuncData
  f_law_made_right : Fun K "_law_made_right" "_law_made_right" s__law_made_right a_law_made_right d_law_made_right
  n_law_made_right : Binds K d_law_made_right ["dice"] []
  g_law_made_right : mg "_law_made_right" = some (.ref a_law_made_right)
  a_law_ten : Addr
  d_law_ten : FuncData
  f_law_ten : Fun K "_law_ten" "_law_ten" s__law_ten a_law_ten d_law_ten
  n_law_ten : Binds K d_law_ten ["told", "some"] []
  g_law_ten : mg "_law_ten" = some (.ref a_law_ten)
  a_law_judged_right : Addr
  d_law_judged_right : FuncData
  f_law_judged_right : Fun K "_law_judged_right" "_law_judged_right" s__law_judged_right a_law_judged_right d_law_judged_right
  n_law_judged_right : Binds K d_law_judged_right ["due"] []
  g_law_judged_right : mg "_law_judged_right" = some (.ref a_law_judged_right)
  alaw : Addr
  dlaw : FuncData
  flaw : Fun K "law" "law" s_law alaw dlaw
  nlaw : Binds K dlaw ["script"] []
  glaw : mg "law" = some (.ref alaw)
end K11
/-! Data at addresses, its text, its order. -/
namespace Kx
open PySem PySem.Spec PyProof.Rows L2
/-- a key as data -/
def keyD : Key → PyData
  | .inl i => .int i
  | .inr x => .str x
/-- the pairs of a dict as data; the values are flat -/
inductive KvD : List (Key × V) → List (PyData × PyData) → Prop
  | nil : KvD [] []
  | int {k : Key} {i : Int} {r : List (Key × V)} {ds : List (PyData × PyData)} : KvD r ds → KvD ((k, .int i) :: r) ((keyD k, .int i) :: ds)
  | str {k : Key} {x : Str} {r : List (Key × V)} {ds : List (PyData × PyData)} : KvD r ds → KvD ((k, .str x) :: r) ((keyD k, .str x) :: ds)
mutual
/-- v stands for the data d: as Dp, and dicts -/
inductive Dx (K : PySem.W.Frag) (H : Hp) : V → PyData → Prop
  | non : Dx K H .non .none
  | bl (b : Bool) : Dx K H (.bl b) (.bool b)
  | int (i : Int) : Dx K H (.int i) (.int i)
  | str (x : Str) : Dx K H (.str x) (.str x)
  | lst {a : Addr} {xs : List V} {ds : List PyData} : H a = some (.lst xs) → DxAll K H xs ds → Dx K H (.ref a) (.list ds)
  | tup {a : Addr} {xs : List V} {ds : List PyData} : H a = some (.tup xs) → DxAll K H xs ds → Dx K H (.ref a) (.tuple ds)
  | dic {a : Addr} {kvs : List (Key × V)} {ds : List (PyData × PyData)} : H a = some (.dK kvs) → KvD kvs ds → Dx K H (.ref a) (.dict ds)
inductive DxAll (K : PySem.W.Frag) (H : Hp) : List V → List PyData → Prop
  | nil : DxAll K H [] []
  | cons {v : V} {vs : List V} {d : PyData} {ds : List PyData} : Dx K H v d → DxAll K H vs ds → DxAll K H (v :: vs) (d :: ds)
end
section
variable {K : PySem.W.Frag} {H H' : Hp}
theorem Same.tup {a : Addr} {xs : List V} (e : Same H H') (h : SqT K H a xs) : SqT K H' a xs := by
  rcases h with (h | ⟨o, h⟩) | h
  · exact .inl (.inl (e _ _ h))
  · exact .inl (.inr ⟨o, e _ _ h⟩)
  · exact .inr h
mutual
theorem Dx.up (e : Same H H') : ∀ {d : PyData} {v : V}, Dx K H v d → Dx K H' v d
  | .none, _, h => by cases h; exact .non
  | .bool b, _, h => by cases h; exact .bl b
  | .int i, _, h => by cases h; exact .int i
  | .str x, _, h => by cases h; exact .str x
  | .list ds, _, h => by cases h with | lst a b => exact .lst (e _ _ a) (DxAll.up e b)
  | .tuple ds, _, h => by cases h with | tup a b => exact .tup (e _ _ a) (DxAll.up e b)
  | .dict ds, _, h => by cases h with | dic a b => exact .dic (e _ _ a) b
theorem DxAll.up (e : Same H H') : ∀ {ds : List PyData} {vs : List V}, DxAll K H vs ds → DxAll K H' vs ds
  | [], _, h => by cases h; exact .nil
  | d :: ds, _, h => by cases h with | cons a b => exact .cons (Dx.up e a) (DxAll.up e b)
end
mutual
/-- data without dicts -/
theorem Dx.dp : ∀ {d : PyData} {v : V}, d.hasDict = false → Dx K H v d → Dp K H v d
  | .none, _, _, h => by cases h; exact .non
  | .bool b, _, _, h => by cases h; exact .bl b
  | .int i, _, _, h => by cases h; exact .int i
  | .str x, _, _, h => by cases h; exact .str x
  | .list ds, _, z, h => by cases h with | lst a b => exact .lst (.inl (.inl a)) (DxAll.dp (by simpa [PyData.hasDict] using z) b)
  | .tuple ds, _, z, h => by cases h with | tup a b => exact .tup (.inl (.inl a)) (DxAll.dp (by simpa [PyData.hasDict] using z) b)
  | .dict ds, _, z, h => by simp [PyData.hasDict] at z
theorem DxAll.dp : ∀ {ds : List PyData} {vs : List V}, PyData.hasDictAll ds = false → DxAll K H vs ds → DpAll K H vs ds
  | [], _, _, h => by cases h; exact .nil
  | d :: ds, _, z, h => by
    cases h with
    | cons a b =>
      have z' : d.hasDict = false ∧ PyData.hasDictAll ds = false := by simpa [PyData.hasDictAll] using z
      exact .cons (Dx.dp z'.1 a) (DxAll.dp z'.2 b)
end
theorem DxAll.length : ∀ {vs : List V} {ds : List PyData}, DxAll K H vs ds → vs.length = ds.length
  | _, _, .nil => rfl
  | _, _, .cons _ t => by rw [List.length_cons, List.length_cons, DxAll.length t]
theorem DxAll.append : ∀ {vs us : List V} {ds es : List PyData}, DxAll K H vs ds → DxAll K H us es → DxAll K H (vs ++ us) (ds ++ es)
  | _, _, _, _, .nil, h => h
  | _, _, _, _, .cons a t, h => .cons a (DxAll.append t h)
theorem DxAll.get : ∀ {vs : List V} {ds : List PyData} {i : Nat} {d : PyData}, DxAll K H vs ds → ds[i]? = some d → ∃ v, vs[i]? = some v ∧ Dx K H v d
  | _, _, _, _, .nil, h => by simp at h
  | _, _, 0, _, .cons a _, h => by
    simp at h
    subst h
    exact ⟨_, rfl, a⟩
  | _, _, i + 1, _, .cons _ t, h => by
    obtain ⟨v, e, x⟩ := DxAll.get (i := i) t (by simpa using h)
    exact ⟨v, by simpa using e, x⟩
theorem DxAll.take : ∀ {vs : List V} {ds : List PyData} (i : Nat), DxAll K H vs ds → DxAll K H (vs.take i) (ds.take i)
  | _, _, 0, _ => .nil
  | _, _, _ + 1, .nil => .nil
  | _, _, i + 1, .cons a t => .cons a (DxAll.take i t)
theorem DxAll.drop : ∀ {vs : List V} {ds : List PyData} (i : Nat), DxAll K H vs ds → DxAll K H (vs.drop i) (ds.drop i)
  | _, _, 0, h => h
  | _, _, _ + 1, .nil => .nil
  | _, _, i + 1, .cons _ t => DxAll.drop i t
end
/-- the class of data -/
def tyD : PyData → String
  | .none => "NoneType"
  | .bool _ => "bool"
  | .int _ => "int"
  | .str _ => "str"
  | .list _ => "list"
  | .tuple _ => "tuple"
  | .dict _ => "dict"
theorem Dx.ty {K : PySem.W.Frag} {H : Hp} {d : PyData} {v : V} (h : Dx K H v d) : TyX K H v (.type (tyD d)) := by
  cases h with
  | non => exact .base .non
  | bl b => exact .base (.bl b)
  | int i => exact .base (.int i)
  | str x => exact .base (.str x)
  | lst a _ => exact .base (.lst a)
  | tup a _ => exact .base (.tup a)
  | dic a _ => exact .base (.dK a)
mutual
/-- no list within -/
def noL : PyData → Bool
  | .list _ => false
  | .tuple ds => noLs ds
  | _ => true
def noLs : List PyData → Bool
  | [] => true
  | d :: ds => noL d && noLs ds
end
section
variable {X : Cx} {pins : List (Addr × Obj)} {σ : L2.St} {H : Hp} {s : Shared}
theorem kv_reads {P : Program} {w : World} {h : Heap} : ∀ {kvs : List (Key × V)} {ds : List (PyData × PyData)} {vs : List (Key × Value)} {es : List DictEntry}, KvD kvs ds → KV kvs vs → Pairs (mixKind P w) es vs →
    ReadsAll h (es.map (·.key)) (ds.map (·.1)) [] ∧ ReadsAll h (es.map (·.val)) (ds.map (·.2)) []
  | _, _, _, _, .nil, r, p => by
    cases r
    cases p
    exact ⟨.nil, .nil⟩
  | _, _, _, _, .int (k := k) (i := i) t, r, p => by
    cases r with
    | cons r0 rt =>
      cases p with
      | cons p1 p2 pt =>
        obtain ⟨a, b⟩ := kv_reads (h := h) t rt pt
        obtain ⟨r1, tk, r2⟩ := r0
        refine ⟨ReadsAll.cons (as := []) (bs := []) ?_ a, ReadsAll.cons (as := []) (bs := []) ?_ b⟩
        · rw [← r1] at p1
          rcases keyIs_shape p1 with ⟨j, u, rfl, ee⟩ | ⟨x, u, rfl, ee⟩
          · dsimp only; rw [ee]; exact Reads.int j u
          · dsimp only; rw [ee]; exact Reads.str x u
        · dsimp only
          rw [p2, r2]
          exact Reads.int i tk
  | _, _, _, _, .str (k := k) (x := i) t, r, p => by
    cases r with
    | cons r0 rt =>
      cases p with
      | cons p1 p2 pt =>
        obtain ⟨a, b⟩ := kv_reads (h := h) t rt pt
        obtain ⟨r1, tk, r2⟩ := r0
        refine ⟨ReadsAll.cons (as := []) (bs := []) ?_ a, ReadsAll.cons (as := []) (bs := []) ?_ b⟩
        · rw [← r1] at p1
          rcases keyIs_shape p1 with ⟨j, u, rfl, ee⟩ | ⟨x, u, rfl, ee⟩
          · dsimp only; rw [ee]; exact Reads.int j u
          · dsimp only; rw [ee]; exact Reads.str x u
        · dsimp only
          rw [p2, r2]
          exact Reads.str i tk
mutual
theorem Dx.reads (I : Inv X pins σ H s) : ∀ (d : PyData) (v : V) (u : Value), Dx X.K H v d → RelV v u → ∃ as, Reads s.heap u d as ∧ (noL d = true → sysModules ∉ as)
  | .none, _, _, h, r => by
    cases h
    cases r
    exact ⟨_, Reads.none, fun _ => by simp⟩
  | .bool b, _, _, h, r => by
    cases h
    cases r
    exact ⟨_, Reads.bool b, fun _ => by simp⟩
  | .int i, _, _, h, r => by
    cases h
    obtain ⟨t, rfl⟩ := r
    exact ⟨_, Reads.int i t, fun _ => by simp⟩
  | .str x, _, _, h, r => by
    cases h
    obtain ⟨t, rfl⟩ := r
    exact ⟨_, Reads.str x t, fun _ => by simp⟩
  | .list ds, _, _, h, r => by
    cases h with
    | lst hs ha =>
      cases r
      obtain ⟨its, rv, ⟨o, n, ho, hc, _, hd⟩, _⟩ := I.list (SqL.of hs)
      obtain ⟨as, hr, _⟩ := DxAll.reads I ds _ its ha rv
      exact ⟨_, Reads.list ho hc hd hr, fun z => by simp [noL] at z⟩
  | .tuple ds, _, _, h, r => by
    cases h with
    | tup hs ha =>
      cases r
      obtain ⟨its, rv, ⟨o, ho, hc, n, hd⟩, _⟩ := I.tuple (SqT.of hs)
      obtain ⟨as, hr, z⟩ := DxAll.reads I ds _ its ha rv
      exact ⟨_, Reads.tuple ho hc hd hr, fun q => z (by simpa [noL] using q)⟩
  | .dict ds, _, _, h, r => by
    cases h with
    | dic hs ha =>
      cases r
      obtain ⟨_, ns, vs, rv, o, es, ep, h1, h2, h3, h4, h5, h6⟩ := I.hok _ _ hs
      obtain ⟨q1, q2⟩ := kv_reads (h := s.heap) ha rv h5
      refine ⟨_, Reads.dict h1 h2.1 h3 q1 q2, fun _ => ?_⟩
      have ne : ¬ _ = sysModules := beq_eq_false_iff_ne.mp ns
      simp only [List.append_nil, List.mem_singleton]
      exact fun e => ne e.symm
theorem DxAll.reads (I : Inv X pins σ H s) : ∀ (ds : List PyData) (vs : List V) (us : List Value), DxAll X.K H vs ds → Vals vs us → ∃ as, ReadsAll s.heap us ds as ∧ (noLs ds = true → sysModules ∉ as)
  | [], _, _, h, r => by
    cases h
    cases r
    exact ⟨_, ReadsAll.nil, fun _ => by simp⟩
  | d :: ds, _, _, h, r => by
    cases h with
    | cons h1 h2 =>
      cases r with
      | cons r1 r2 =>
        obtain ⟨as, q1, z1⟩ := Dx.reads I d _ _ h1 r1
        obtain ⟨bs, q2, z2⟩ := DxAll.reads I ds _ _ h2 r2
        refine ⟨_, ReadsAll.cons q1 q2, fun z => ?_⟩
        have z' : noL d = true ∧ noLs ds = true := by simpa [noLs] using z
        simp only [List.mem_append, not_or]
        exact ⟨z1 z'.1, z2 z'.2⟩
end
end
section
variable {X : Cx}
/-- repr(x) of data, where nothing around shows itself -/
def rRepr (K : PySem.W.Frag) : List V → Hp → VK → Prop := fun xs H Q => ∃ x d, xs = [x] ∧ Dx K H x d ∧ d.showable = true ∧ (d.hasDict = true → noL d = true) ∧ d.depth ≤ 60 ∧ d.shown.length + 64 ≤ sizeLine ∧ Q (.str d.shown) H
theorem cr_repr (cm : Calm X.A) (hu : X.A.units + 64 < cLine) : CallR X (.builtin "repr") (rRepr X.K) := by
  intro pins s σ H xs us Q I rv h
  obtain ⟨x, d, rfl, hx, sh, hd, dp, sz, q⟩ := h
  obtain ⟨u, rfl, ru⟩ := rv.one
  obtain ⟨as, rd, ns⟩ := Dx.reads I d x u hx ru
  cases rd with
  | none => exact PySem.P.repr_of_none ⟨.str _, H, I.tok _, ⟨_, rfl⟩, q⟩
  | bool b => exact PySem.P.repr_of_bool ⟨.str _, H, I.tok _, ⟨_, rfl⟩, by simpa [PyData.shown] using q⟩
  | int i t => exact PySem.P.repr_of_int (by simpa [PyData.showable] using sh) ⟨.str _, H, I.tok _, ⟨_, rfl⟩, q⟩
  | str z t => exact PySem.P.repr_of_str ⟨.str _, H, I.tok _, ⟨_, rfl⟩, q⟩ (Nat.le_trans (Nat.le_add_right _ 64) (by simpa [PyData.shown] using sz))
  | list h1 h2 h3 h4 =>
    exact repr_of_reads' (.list h1 h2 h3 h4) sh (fun z => ns (hd z)) cm (by omega) (fun _ _ e => e) (fun h' u tk k => ⟨.str _, H, I.kept k, ⟨_, rfl⟩, q⟩) (by omega)
  | tuple h1 h2 h3 h4 =>
    exact repr_of_reads' (.tuple h1 h2 h3 h4) sh (fun z => ns (hd z)) cm (by omega) (fun _ _ e => e) (fun h' u tk k => ⟨.str _, H, I.kept k, ⟨_, rfl⟩, q⟩) (by omega)
  | dict h1 h2 h3 h4 h5 =>
    exact repr_of_reads' (.dict h1 h2 h3 h4 h5) sh (fun z => ns (hd z)) cm (by omega) (fun _ _ e => e) (fun h' u tk k => ⟨.str _, H, I.kept k, ⟨_, rfl⟩, q⟩) (by omega)
/-- sorted(xs), by the data of the items -/
abbrev Item := V × PyData
def rSortD (K : PySem.W.Frag) : List V → Hp → VK → Prop := fun xs H Q => ∃ (a : Addr) (zs : List Item), xs = [.ref a] ∧ SqL K H a (zs.map Prod.fst) ∧ (∀ p, p ∈ zs → Dp K H p.1 p.2) ∧ PySem.W.AllAlike (zs.map Prod.snd) ∧ PySem.W.Sortable (zs.map Prod.snd) ∧
  zs.length ≤ sizeLine ∧ (∀ p, p ∈ zs → p.2.depth ≤ 60) ∧ ∀ p, H p = none → Q (.ref p) (upd H p (.lst ((zs.mergeSort (PySem.W.dataLe false Prod.snd)).map Prod.fst)))
theorem cr_sortedD (hu : X.A.units + 64 < cLine) : CallR X (.builtin "sorted") (rSortD X.K) := by
  intro pins s σ H xs us Q I rv h
  obtain ⟨a, zs, rfl, hl, hz, al, so, sz, dp, q⟩ := h
  obtain ⟨u, rfl, ru⟩ := rv.one
  cases ru
  obtain ⟨its, r, pl, nl⟩ := I.list hl
  have each : ∀ (zs : List Item) (its : List Value), Vals (zs.map Prod.fst) its → (∀ p, p ∈ zs → Dp X.K H p.1 p.2) → PySem.W.EachIs (fun u (p : Item) => RelV p.1 u ∧ ∃ as, Reads s.heap u p.2 as) its zs := by
    intro zs
    induction zs with
    | nil =>
      intro its r _
      cases r
      exact .nil
    | cons p zs ih =>
      intro its r hz
      cases r with
      | cons r1 rt => exact .cons ⟨r1, Dp.reads I _ _ _ (hz p List.mem_cons_self) r1⟩ (ih _ rt fun q hq => hz q (List.mem_cons_of_mem _ hq))
  have e := each zs its r hz
  have back : ∀ {out : List Value} {ys : List Item}, PySem.W.EachIs (fun u (p : Item) => RelV p.1 u ∧ ∃ as, Reads s.heap u p.2 as) out ys → Vals (ys.map Prod.fst) out := by
    intro out ys h
    induction h with
    | nil => exact .nil
    | cons h _ ih => exact .cons h.1 ih
  refine PySem.W.sorted_data pl.isList e (e.mono fun _ _ h => h.2) al so sz (fun b hb => by have := dp b hb; omega) ?_
  intro out ho eo
  obtain ⟨ep, he⟩ := PyProof.Rows.sortedAll_at s.heap its out.toArray
  have rr := back eo
  have ln : ((zs.mergeSort (PySem.W.dataLe false Prod.snd)).map Prod.fst).length ≤ sizeLine := by
    rw [List.length_map, List.length_mergeSort]
    exact sz
  exact ⟨.ref _, upd H (s.heap.objs.size + 1) (.lst ((zs.mergeSort (PySem.W.dataLe false Prod.snd)).map Prod.fst)), I.laid (t' := s.toks) (fun _ _ => PyProof.Rows.sortedAll_old) (Nat.le_succ _) ⟨ln, out, ep, rr, he⟩, rfl, q _ (I.hok.fresh (Nat.le_succ _))⟩
end
end Kx
/-! The dice. -/
namespace K11
open PySem PySem.Spec PyProof.Rows L2 Kx
/-- all but a stands -/
def But (a : Addr) (H H' : Hp) : Prop := ∀ b o, H b = some o → b ≠ a → H' b = some o
theorem But.refl (a : Addr) (H : Hp) : But a H H := fun _ _ h _ => h
theorem But.trans {a : Addr} {H H1 H2 : Hp} (x : But a H H1) (y : But a H1 H2) : But a H H2 := fun b o h n => y b o (x b o h n) n
theorem But.of {a : Addr} {H H' : Hp} (x : Same H H') : But a H H' := fun b o h _ => x b o h
theorem But.upd {a : Addr} {H : Hp} {o : HO} : But a H (upd H a o) := fun b u h n => by rw [upd_ne n]; exact h
theorem same_new {H : Hp} {p : Addr} {o : HO} (h : H p = none) : Same H (upd H p o) := fun b x e => by
  rw [upd_ne (ne_of_none e h)]
  exact e
/-- dice at a, rolled n times at most -/
def Dice (H : Hp) (a : Addr) (n : Nat) : Prop := ∃ i0 i1 i2 : Int, H a = some (.lst [.int i0, .int i1, .int i2]) ∧ 0 ≤ i0 ∧ i0 < 2 ^ 2200 ∧ 0 ≤ i1 ∧ i1 < 2 ^ 61 ∧ 0 ≤ i2 ∧ i2 ≤ n
theorem Dice.up {H H' : Hp} {a : Addr} {n : Nat} (d : Dice H a n) (e : Same H H') : Dice H' a n := by
  obtain ⟨i0, i1, i2, h, r⟩ := d
  exact ⟨i0, i1, i2, e _ _ h, r⟩
theorem Dice.le {H : Hp} {a : Addr} {n m : Nat} (d : Dice H a n) (e : n ≤ m) : Dice H a m := by
  obtain ⟨i0, i1, i2, h, a1, a2, a3, a4, a5, a6⟩ := d
  exact ⟨i0, i1, i2, h, a1, a2, a3, a4, a5, by omega⟩
section
variable {P : Program} {w : World} {K : PySem.W.Frag} {mg : Str → Option Value} {base : Heap}
def spDice (K : PySem.W.Frag) : Sp := fun vs H Q _ => ∃ (a : Addr) (ns : List Int) (k : Nat), vs = [.ref a, .int k] ∧ SqL K H a (ns.map V.int) ∧ k < 1000 ∧ ∀ H' p, Same H H' → H p = none → Dice H' p 0 → Q (.ref p) H'
theorem ok_dice (T : Tx K mg) : FnOk P w K mg base CX0 1 T.a_law_dice T.d_law_dice ["script", "spot"] (spDice K) := by
  have nd := sc__law_dice.nd
  refine T.f_law_dice.ok sc__law_dice (fun vs H Q E h => ?_) (fun cdv A outer s H vs Q E hr h => ?_)
  · obtain ⟨a, ns, k, rfl, _⟩ := h
    rfl
  · obtain ⟨a, ns, k, rfl, hS, hk, q⟩ := h
    refine ⟨_, (C8.pss_cut (ps_set (i := 2) nd rfl (.inl rfl) (pe_ifExp (pt_cmpR op_lt (pv 1) (pe_callB call_len_seq (by rfl) T.b_len (by decide +kernel) (pa_cons (pv 0) pa_nil)) (nomark _)) (pe_ix ix_list (pv 0) (pv 1) (fun _ _ => rfl)) (pe_op op_add (pe_op op_mul pe_int (pv 1)) pe_int)))
      (pss_cons (ps_set (i := 3) nd rfl (.inl rfl) (pe_op op_mod (pe_callTy call_int1 (by rfl) T.b_int (by decide +kernel) (pa_cons (pe_callB call_abs (by rfl) T.b_abs (by decide +kernel) (pa_cons (pv 2) pa_nil)) pa_nil)) (pe_op op_powX (pe_op op_pow pe_int pe_int) pe_int)))
      (pss_cons (ps_set (i := 4) nd rfl (.inl rfl) (pe_op op_mul (pe_op op_mod (pe_callTy call_int1 (by rfl) T.b_int (by decide +kernel) (pa_cons (pv 3) pa_nil)) pe_int) pe_int))
      (pss_cons (ps_set (i := 4) nd rfl (.inl rfl) (pe_op op_add (pe_op op_add (pe_op op_add (pv 4) (pe_op op_mul pe_int (pv 1))) (pe_op op_mul pe_int (pe_callTy call_int1 (by rfl) T.b_int (by decide +kernel) (pa_cons (pe_cmpR op_lt (pv 2) pe_int (nomark _)) pa_nil)))) pe_int))
      (pss_one (ps_ret (pe_lst (pa_cons (pe_callB (call_max2 rfl) (by rfl) T.b_max (by decide +kernel) (pa_cons pe_int (pa_cons (pe_op op_add (pe_op op_sub (pv 3) (pe_op op_pow pe_int pe_int)) pe_int) pa_nil))) (pa_cons (pe_op op_mod (pe_callTy call_int1 (by rfl) T.b_int (by decide +kernel) (pa_cons (pv 4) pa_nil)) pe_int) (pa_cons pe_int pa_nil)))))))))), ?_⟩
    -- cell: one or the other int
    refine ⟨fun σ' H' => H' = H ∧ ∃ c : Int, σ' = [some (.ref a), some (.int k), some (.int c), none, none], ?_, ?_⟩
    · refine ⟨_, rfl, .ref a, rfl, a, ns.map V.int, rfl, .inl hS, k, _, rfl, rfl, _, rfl, ite2 (fun hc => ?_) (fun hc => ?_)⟩
      · have lt : k < ns.length := by
          have z := of_decide_eq_true hc
          rw [List.length_map] at z
          omega
        refine ⟨.ref a, rfl, _, rfl, a, ns.map V.int, (k : Int), .int ns[k], rfl, rfl, hS, atI_nat (by rw [List.getElem?_map, List.getElem?_eq_getElem lt]; rfl), rfl, ns[k], rfl⟩
      · exact ⟨_, rfl, 37, k, rfl, rfl, .inl ⟨by decide, by decide⟩, _, _, rfl, rfl, rfl, _, rfl⟩
    rintro σ' H' ⟨rfl, c, rfl⟩
    -- great
    refine ⟨_, rfl, c, rfl, .inl ⟨_, rfl, 10, 59, rfl, rfl, ⟨by decide, by decide, by decide⟩, _, 11, rfl, rfl, ⟨by decide, by decide +kernel⟩, _, _, rfl, rfl, (show (0 : Int) < ((10 : Int) ^ (59 : Int).toNat) ^ (11 : Int).toNat by decide +kernel), ?_⟩⟩
    dsimp only
    have g0 := Int.emod_nonneg (if c < 0 then -c else c) (show ((10 : Int) ^ (59 : Int).toNat) ^ (11 : Int).toNat ≠ 0 by decide +kernel)
    have g1 := Int.emod_lt_of_pos (if c < 0 then -c else c) (show (0 : Int) < ((10 : Int) ^ (59 : Int).toNat) ^ (11 : Int).toNat by decide +kernel)
    have g2 : ((10 : Int) ^ (59 : Int).toNat) ^ (11 : Int).toNat < 2 ^ 2200 := by decide +kernel
    have g3 := Int.lt_trans g1 g2
    clear g1 g2
    generalize (if c < 0 then -c else c) % ((10 : Int) ^ (59 : Int).toNat) ^ (11 : Int).toNat = g at g0 g3 ⊢
    -- mixed
    refine ⟨_, rfl, .inl ⟨g, rfl, g, 2305843009213693951, rfl, rfl, (show (0 : Int) < 2305843009213693951 by decide), _, 7046029254386353, rfl, rfl, .inr ⟨by decide, by decide⟩, ?_⟩⟩
    refine ⟨_, rfl, _, rfl, 131, k, rfl, rfl, .inl ⟨by decide, by decide⟩, _, _, rfl, rfl, _, rfl, c, 0, rfl, rfl, .inr ⟨_, rfl, 17, _, rfl, rfl, .inl ⟨by decide, by decide⟩, _, _, rfl, rfl, _, 3, rfl, rfl, ?_⟩⟩
    dsimp only
    generalize g % 2305843009213693951 * 7046029254386353 + 131 * (k : Int) + 17 * (if decide (c < 0) = true then 1 else 0) + 3 = m
    -- the list
    refine ⟨_, rfl, 10, 18, rfl, rfl, ⟨by decide, by decide, by decide⟩, g, _, rfl, rfl, _, 1, rfl, rfl, 0, _, rfl, _, rfl, .inl ⟨m, rfl, m, 2305843009213693921, rfl, rfl, (show (0 : Int) < 2305843009213693921 by decide), by show 3 ≤ sizeLine; decide, fun p np => ?_⟩⟩
    refine q _ p (same_new np) np ⟨_, _, _, upd_same, ?_, ?_, Int.emod_nonneg _ (by decide), Int.lt_trans (Int.emod_lt_of_pos _ (by decide)) (by decide), by decide, by decide⟩
    · split <;> omega
    · split
      · have : (0 : Int) ≤ 10 ^ (18 : Int).toNat := by decide
        have z : (1 : Int) ≤ 10 ^ (18 : Int).toNat := by decide
        omega
      · decide
end
end K11
/-! The dice rolled; an item picked; items mixed. -/
namespace K11
open PySem PySem.Spec PyProof.Rows L2 Kx
section
variable {P : Program} {w : World} {K : PySem.W.Frag} {mg : Str → Option Value} {base : Heap}
def cap : Nat := 1000000
def spRoll : Sp := fun vs H Q _ => ∃ (a : Addr) (n : Nat) (m : Int), vs = [.ref a, .int m] ∧ Dice H a n ∧ n < cap ∧ 0 < m ∧ m < 1000000 ∧ ∀ (r : Int) H', But a H H' → Dice H' a (n + 1) → 0 ≤ r → r < m → Q (.int r) H'
theorem ok_roll (T : Tx K mg) : FnOk P w K mg base CX0 1 T.a_law_roll T.d_law_roll ["dice", "top"] spRoll := by
  have nd := sc__law_roll.nd
  refine T.f_law_roll.ok sc__law_roll (fun vs H Q E h => ?_) (fun cdv A outer s H vs Q E hr h => ?_)
  · obtain ⟨a, n, m, rfl, _⟩ := h
    rfl
  · obtain ⟨a, n, m, rfl, ⟨i0, i1, i2, hd, h0, h1, h2, h3, h4, h5⟩, hn, m0, m1, q⟩ := h
    have sl : SqL K H a [.int i0, .int i1, .int i2] := .inl (.inl hd)
    refine ⟨_, (pss_cons (ps_if (pt_cmpR op_gt (pe_ix ix_list (pv 0) pe_int (fun _ _ => rfl)) pe_int (nomark _)) (pss_cons (ps_set (i := 2) nd rfl (.inl rfl) (pe_op op_mod (pe_callTy call_int1 (by rfl) T.b_int (by decide +kernel) (pa_cons (pe_ix ix_list (pv 0) pe_int (fun _ _ => rfl)) pa_nil)) (pv 1)))
      (pss_cons (ps_asg (pe_op op_fdivW (pe_ix ix_list (pv 0) pe_int (fun _ _ => rfl)) (pv 1)) (pg_sub (pv 0) pe_int set_list))
      (pss_one (ps_ret (pv 2))))) pss_nil)
      (pss_cons (ps_asg (pe_op op_add (pe_ix ix_list (pv 0) pe_int (fun _ _ => rfl)) pe_int) (pg_sub (pv 0) pe_int set_list))
      (pss_cons (ps_set (i := 3) nd rfl (.inl rfl) (pe_op op_mod (pe_callTy call_int1 (by rfl) T.b_int (by decide +kernel) (pa_cons (pe_op op_add (pe_ix ix_list (pv 0) pe_int (fun _ _ => rfl)) (pe_op op_mul pe_int (pe_ix ix_list (pv 0) pe_int (fun _ _ => rfl)))) pa_nil)) pe_int))
      (pss_cons (ps_set (i := 4) nd rfl (.inl rfl) (pe_op op_add (pe_op op_mul (pe_op op_mod (pe_callTy call_int1 (by rfl) T.b_int (by decide +kernel) (pa_cons (pe_op op_mul (pv 3) (pv 3)) pa_nil)) pe_int) (pv 3)) (pe_op op_mul pe_int (pe_ix ix_list (pv 0) pe_int (fun _ _ => rfl)))))
      (pss_one (ps_ret (pe_op op_mod (pe_callTy call_int1 (by rfl) T.b_int (by decide +kernel) (pa_cons (pe_op op_fdiv (pe_op op_mod (pe_callTy call_int1 (by rfl) T.b_int (by decide +kernel) (pa_cons (pe_op op_add (pe_op op_mulW (pv 4) (pv 4)) (pe_ix ix_list (pv 0) pe_int (fun _ _ => rfl))) pa_nil)) pe_int) pe_int) pa_nil)) (pv 1)))))))), ?_⟩
    refine ⟨_, rfl, a, _, _, _, rfl, rfl, sl, atI_nat (j := 0) rfl, i0, 0, rfl, rfl, _, rfl, ite2 (fun hc => ?_) (fun hc => ?_)⟩
    · -- the great number
      refine ⟨_, rfl, a, _, _, _, rfl, rfl, sl, atI_nat (j := 0) rfl, .inl ⟨i0, rfl, _, rfl, i0, m, rfl, rfl, m0, ?_⟩⟩
      refine ⟨_, rfl, a, _, _, _, rfl, rfl, sl, atI_nat (j := 0) rfl, _, rfl, i0, m, rfl, rfl, wide_div m0 (b := 30) (by omega) (by decide) (by decide), _, rfl, a, _, _, 0, rfl, rfl, hd, rfl, ?_⟩
      refine ⟨_, rfl, q _ _ But.upd ⟨i0 / m, i1, i2, upd_same, Int.ediv_nonneg h0 (by omega), Int.lt_of_le_of_lt (Int.ediv_le_self _ h0) h1, h2, h3, h4, by omega⟩ (Int.emod_nonneg _ (by omega)) (Int.emod_lt_of_pos _ m0)⟩
    · -- the small one
      refine ⟨_, rfl, a, _, _, _, rfl, rfl, sl, atI_nat (j := 2) rfl, i2, 1, rfl, rfl, _, rfl, a, _, _, 2, rfl, rfl, hd, rfl, ?_⟩
      have hd2 : (upd H a (.lst ([V.int i0, V.int i1, V.int i2].set 2 (V.int (i2 + 1))))) a = some (.lst [V.int i0, V.int i1, V.int (i2 + 1)]) := upd_same
      have sl2 : SqL K (upd H a (.lst ([V.int i0, V.int i1, V.int i2].set 2 (V.int (i2 + 1))))) a [.int i0, .int i1, .int (i2 + 1)] := .inl (.inl hd2)
      refine ⟨_, rfl, a, _, _, _, rfl, rfl, sl2, atI_nat (j := 1) rfl, _, rfl, a, _, _, _, rfl, rfl, sl2, atI_nat (j := 2) rfl, 1220703125, i2 + 1, rfl, rfl, .inl ⟨by decide, by decide⟩, i1, _, rfl, rfl, .inl ⟨_, rfl, _, 36028797018963913, rfl, rfl, (show (0 : Int) < 36028797018963913 by decide), ?_⟩⟩
      dsimp only
      have o0 := Int.emod_nonneg (i1 + 1220703125 * (i2 + 1)) (show (36028797018963913 : Int) ≠ 0 by decide)
      have o1 := Int.emod_lt_of_pos (i1 + 1220703125 * (i2 + 1)) (show (0 : Int) < 36028797018963913 by decide)
      generalize (i1 + 1220703125 * (i2 + 1)) % 36028797018963913 = one at o0 o1 ⊢
      refine ⟨_, rfl, _, rfl, one, one, rfl, rfl, .inl ⟨by omega, by omega⟩, .inl ⟨_, rfl, _, 18014398509481951, rfl, rfl, (show (0 : Int) < 18014398509481951 by decide), _, rfl, _, one, rfl, rfl, .inr ⟨by omega, by omega⟩, _, rfl, a, _, _, _, rfl, rfl, sl2, atI_nat (j := 2) rfl, 271828183, i2 + 1, rfl, rfl, .inl ⟨by decide, by decide⟩, _, _, rfl, rfl, ?_⟩⟩
      dsimp only
      have x0 := Int.emod_nonneg (one * one) (show (18014398509481951 : Int) ≠ 0 by decide)
      have x1 := Int.emod_lt_of_pos (one * one) (show (0 : Int) < 18014398509481951 by decide)
      generalize one * one % 18014398509481951 = x at x0 x1 ⊢
      have y0 : 0 ≤ x * one := Int.mul_nonneg x0 o0
      have y1 : x * one ≤ 18014398509481951 * 36028797018963913 := Int.mul_le_mul (by omega) (by omega) o0 (by decide)
      generalize x * one = y at y0 y1 ⊢
      have hn' : (i2 + 1 : Int) ≤ 1000001 := by
        unfold cap at hn
        omega
      have t1 : (y + 271828183 * (i2 + 1)).natAbs < 2 ^ 120 := by omega
      generalize y + 271828183 * (i2 + 1) = two at t1 ⊢
      refine ⟨_, rfl, _, rfl, two, two, rfl, rfl, wide_mul t1 t1 (by decide) (by decide) (by decide), _, rfl, a, _, _, _, rfl, rfl, sl2, atI_nat (j := 1) rfl, _, i1, rfl, rfl, .inl ⟨_, rfl, _, 1125899906842597, rfl, rfl, (show (0 : Int) < 1125899906842597 by decide), _, 4096, rfl, rfl, ⟨by decide, by decide⟩, .inl ⟨_, rfl, _, rfl, _, m, rfl, rfl, m0, ?_⟩⟩⟩
      exact q _ _ But.upd ⟨i0, i1, i2 + 1, hd2, h0, h1, h2, h3, by omega, by omega⟩ (Int.emod_nonneg _ (by omega)) (Int.emod_lt_of_pos _ m0)
/-- an item of a list at b -/
def spPick (K : PySem.W.Frag) : Sp := fun vs H Q _ => ∃ (a b : Addr) (n : Nat) (xs : List V), vs = [.ref a, .ref b] ∧ Dice H a n ∧ n < cap ∧ SqL K H b xs ∧ b ≠ a ∧ 0 < xs.length ∧ xs.length < 1000000 ∧ ∀ (i : Nat) (v : V) H', But a H H' → Dice H' a (n + 1) → xs[i]? = some v → Q v H'
theorem But.sq {a b : Addr} {H H' : Hp} {xs : List V} (x : But a H H') (h : SqL K H b xs) (n : b ≠ a) : SqL K H' b xs := by
  rcases h with (h | ⟨o, h⟩) | h
  · exact .inl (.inl (x _ _ h n))
  · exact .inl (.inr ⟨o, x _ _ h n⟩)
  · exact .inr h
theorem ok_pick (T : Tx K mg) : FnOk P w K mg base CX0 2 T.a_law_pick T.d_law_pick ["dice", "items"] (spPick K) := by
  have nd := sc__law_pick.nd
  have G := ok_roll (P := P) (w := w) (base := base) T
  refine T.f_law_pick.ok sc__law_pick (fun vs H Q E h => ?_) (fun cdv A outer s H vs Q E hr h => ?_)
  · obtain ⟨a, b, n, xs, rfl, _⟩ := h
    rfl
  · obtain ⟨a, b, n, xs, rfl, hd, hn, hb, ne, l0, l1, q⟩ := h
    refine ⟨_, (pss_one (ps_ret (pe_ix ix_list (pv 1) (pe_call G (hr.mono (by decide)) (by rfl) T.g_law_roll T.f_law_roll.kp T.n_law_roll .nil pass0 (pa_cons (pv 0) (pa_cons (pe_callB call_len_seq (by rfl) T.b_len (by decide +kernel) (pa_cons (pv 1) pa_nil)) pa_nil))) (fun _ _ => rfl)))), ?_⟩
    refine ⟨_, rfl, _, rfl, _, rfl, b, xs, rfl, .inl hb, a, n, _, rfl, hd, hn, by omega, by omega, fun r H' bt hd' r0 r1 => ?_⟩
    have lt : r.toNat < xs.length := by omega
    have e : xs[r.toNat]? = some xs[r.toNat] := List.getElem?_eq_getElem lt
    refine ⟨b, xs, r, _, rfl, rfl, bt.sq hb ne, ?_, q _ _ _ bt hd' e⟩
    exact at_of (by omega) e
end
end K11
/-! Compared with an empty list, an empty tuple. -/
namespace Kx
open PySem PySem.Spec PyProof.Rows L2
section
variable {X : Cx}
def rNilL (K : PySem.W.Frag) (g : Bool → Bool) : R2 := fun x y H Q => ∃ a b xs, x = .ref a ∧ y = .ref b ∧ SqL K H a xs ∧ SqL K H b [] ∧ Q (.bl (g xs.isEmpty)) H
def rNilT (K : PySem.W.Frag) (g : Bool → Bool) : R2 := fun x y H Q => ∃ a b xs, x = .ref a ∧ y = .ref b ∧ SqT K H a xs ∧ SqT K H b [] ∧ Q (.bl (g xs.isEmpty)) H
theorem op_neNil (hu : X.A.units + 64 < cLine) : OpR X (compareOp .NotEq) (rNilL X.K fun b => !b) := by
  intro pins s σ H x y v u Q I rx ry h
  obtain ⟨a, b, xs, rfl, rfl, ha, hb, q⟩ := h
  cases xs with
  | nil => exact op_neD hu pins s σ H _ _ v u Q I rx ry ⟨.list [], .list [], .lst ha .nil, .lst hb .nil, rfl, rfl, by simpa [PyData.eqv, PyData.eqvAll] using q⟩
  | cons z zs =>
    cases rx
    cases ry
    obtain ⟨i1, r1, p1, _⟩ := I.list ha
    obtain ⟨i2, r2, p2, _⟩ := I.list hb
    cases r2
    have ne : (i1.toArray.size != (#[] : Array Value).size) = true := by
      cases r1
      simp
    exact SeqAt.RcNeAt.lists_lengths p1.isList p2.isList ne (by omega) _ _ _ _ ⟨.bl _, H, I, rfl, q⟩
theorem op_eqNil (hu : X.A.units + 64 < cLine) : OpR X (compareOp .Eq) (rNilL X.K fun b => b) := by
  intro pins s σ H x y v u Q I rx ry h
  obtain ⟨a, b, xs, rfl, rfl, ha, hb, q⟩ := h
  cases xs with
  | nil => exact op_eqD hu pins s σ H _ _ v u Q I rx ry ⟨.list [], .list [], .lst ha .nil, .lst hb .nil, rfl, rfl, by simpa [PyData.eqv, PyData.eqvAll] using q⟩
  | cons z zs =>
    cases rx
    cases ry
    obtain ⟨i1, r1, p1, _⟩ := I.list ha
    obtain ⟨i2, r2, p2, _⟩ := I.list hb
    cases r2
    have ne : (i1.toArray.size != (#[] : Array Value).size) = true := by
      cases r1
      simp
    exact SeqAt.RcAt.lists_lengths p1.isList p2.isList ne (by omega) _ _ _ _ ⟨.bl _, H, I, rfl, q⟩
end
end Kx
/-! Items mixed. -/
namespace K11
open PySem PySem.Spec PyProof.Rows L2 Kx
theorem erase_perm {α : Type} : ∀ {l : List α} {k : Nat} {y : α}, l[k]? = some y → (y :: l.eraseIdx k).Perm l
  | [], _, _, h => by simp at h
  | x :: l, 0, y, h => by
    simp at h
    subst h
    exact List.Perm.refl _
  | x :: l, k + 1, y, h => by
    have ih := erase_perm (l := l) (k := k) (y := y) (by simpa using h)
    rw [List.eraseIdx_cons_succ]
    exact (List.Perm.swap _ _ _).trans (ih.cons x)
theorem Dice.same {H H' : Hp} {a : Addr} {n : Nat} (d : Dice H a n) (e : H' a = H a) : Dice H' a n := by
  obtain ⟨i0, i1, i2, h, r⟩ := d
  exact ⟨i0, i1, i2, by rw [e, h], r⟩
section
variable {P : Program} {w : World} {K : PySem.W.Frag} {mg : Str → Option Value} {base : Heap}
/-- items in another order, a new list -/
def spMixed (K : PySem.W.Frag) : Sp := fun vs H Q _ => ∃ (a b : Addr) (n : Nat) (xs : List V), vs = [.ref a, .ref b] ∧ Dice H a n ∧ n + xs.length < cap ∧ SqL K H b xs ∧ b ≠ a ∧ xs.length < 1000 ∧
  ∀ (ys : List V) (p : Addr) H', But a H H' → Dice H' a (n + xs.length) → ys.Perm xs → H p = none → p ≠ a → H' p = some (.lst ys) → Q (.ref p) H'
theorem ok_mixed (T : Tx K mg) : FnOk P w K mg base CX0 2 T.a_law_mixed T.d_law_mixed ["dice", "items"] (spMixed K) := by
  have nd := sc__law_mixed.nd
  have G := ok_roll (P := P) (w := w) (base := base) T
  refine T.f_law_mixed.ok sc__law_mixed (fun vs H Q E h => ?_) (fun cdv A outer s H vs Q E hr h => ?_)
  · obtain ⟨a, b, n, xs, rfl, _⟩ := h
    rfl
  · obtain ⟨a, b, n, xs, rfl, hd, hn, hb, ne, l1, q⟩ := h
    refine ⟨_, (pss_cons (ps_par (i := 2) (j := 3) (by rfl) nd rfl rfl (by decide) rfl rfl (pa_cons (pe_callTy call_list_of (by rfl) T.b_list (by decide +kernel) (pa_cons (pv 1) pa_nil)) (pa_cons (pe_lst pa_nil) pa_nil)) (by rfl))
      (pss_cons (ps_while PassesOwn.never (pt_cmpR (op_neNil hr.units) (pv 2) (pe_lst pa_nil) (nomark _)) (pss_one (ps_expr (pe_bm PySem.F.plainAttrs_list PySem.F.slot_list_append PySem.F.type_list_append mt_append (pv 3) (pa_cons (pe_bm PySem.F.plainAttrs_list PySem.F.slot_list_pop PySem.F.type_list_pop mt_popAt (pv 2) (pa_cons (pe_call G (hr.mono (by decide)) (by rfl) T.g_law_roll T.f_law_roll.kp T.n_law_roll .nil pass0 (pa_cons (pv 0) (pa_cons (pe_callB call_len_seq (by rfl) T.b_len (by decide +kernel) (pa_cons (pv 2) pa_nil)) pa_nil))) pa_nil)) pa_nil)))))
      (pss_one (ps_ret (pv 3))))), ?_⟩
    have na : ∀ {p : Addr}, H p = none → p ≠ a := fun h e => by
      subst e
      obtain ⟨i0, i1, i2, z, _⟩ := hd
      rw [z] at h
      cases h
    refine ⟨_, rfl, b, xs, rfl, .inl hb, fun l nl => ⟨Nat.zero_le _, fun f nf => ?_⟩⟩
    have nl' : H l = none := nl
    have nfl : f ≠ l := fun e => by
      subst e
      rw [upd_same] at nf
      cases nf
    have nf' : H f = none := by
      rw [← nf, upd_ne nfl]
    refine ⟨_, _, rfl, ?_⟩
    -- the loop: what is left at l, what is found at f
    refine ⟨fun m σ H2 => σ = [some (.ref a), some (.ref b), some (.ref l), some (.ref f)] ∧ ∃ ls fs : List V, m = ls.length ∧ H2 l = some (.lst ls) ∧ H2 f = some (.lst fs) ∧ (fs ++ ls).Perm xs ∧ But a H H2 ∧ Dice H2 a (n + fs.length),
      ⟨xs.length, rfl, xs, [], rfl, ?_, upd_same, List.Perm.refl _, ?_, ?_⟩, ?_⟩
    · rw [upd_ne nfl.symm, upd_same]
    · exact But.of ((same_new nl').trans (same_new nf))
    · exact (hd.up ((same_new nl').trans (same_new nf))).le (by omega)
    rintro m σ H2 ⟨rfl, ls, fs, rfl, el, ef, pm, bt, dd⟩
    have len := pm.length_eq
    rw [List.length_append] at len
    refine ⟨_, rfl, Nat.zero_le _, fun e ne' => ?_⟩
    have s3 : Same H2 (upd H2 e (.lst [])) := same_new ne'
    refine ⟨l, e, ls, rfl, rfl, .inl (.inl (s3 _ _ el)), .inl (.inl upd_same), _, rfl, ?_⟩
    cases ls with
    | nil =>
      -- the end
      refine iteF ⟨_, rfl, q fs f _ (bt.trans (But.of s3)) ((dd.up s3).le ?_) ?_ nf' (na nf') (s3 _ _ ef)⟩
      · simp at len
        omega
      · simpa using pm
    | cons y0 ys0 =>
      refine iteT ⟨fun σ' H' => ∃ m', m' < (y0 :: ys0).length ∧ _, fun _ _ h => h, ?_⟩
      have sl : SqL K (upd H2 e (.lst [])) l (y0 :: ys0) := .inl (.inl (s3 _ _ el))
      rw [List.length_cons] at len
      refine ⟨_, rfl, .inl ⟨rfl, fs, .inl (.inl (s3 _ _ ef))⟩, _, rfl, .inl ⟨rfl, _, sl⟩, _, rfl, _, rfl, l, _, rfl, .inl sl, a, n + fs.length, _, rfl, dd.up s3, by omega, by rw [List.length_cons]; omega, by rw [List.length_cons]; omega, fun r H4 b4 d4 r0 r1 => ?_⟩
      have nla : l ≠ a := na nl'
      have nfa : f ≠ a := na nf'
      have el4 := b4 _ _ (s3 _ _ el) nla
      have ef4 := b4 _ _ (s3 _ _ ef) nfa
      have lt : r.toNat < (y0 :: ys0).length := by omega
      have ey : (y0 :: ys0)[r.toNat]? = some (y0 :: ys0)[r.toNat] := List.getElem?_eq_getElem lt
      generalize (y0 :: ys0)[r.toNat] = y at ey
      have bound : (y0 :: ys0).length < 1000 := by
        rw [List.length_cons]
        omega
      refine ⟨l, _, r, r.toNat, y, rfl, rfl, el4, by omega, by omega, PySem.seqIndex_of r0 r1, ey, ?_⟩
      have ef5 : (upd H4 l (.lst ((y0 :: ys0).eraseIdx r.toNat))) f = some (.lst fs) := by
        rw [upd_ne nfl]
        exact ef4
      refine ⟨f, fs, y, rfl, rfl, ef5, small1000 (by omega), ?_⟩
      have lne : ((y0 :: ys0).eraseIdx r.toNat).length + 1 = (y0 :: ys0).length := by
        rw [List.length_eraseIdx_of_lt lt, Nat.sub_add_cancel (by simp)]
      refine ⟨_, by omega, rfl, (y0 :: ys0).eraseIdx r.toNat, fs ++ [y], rfl, ?_, upd_same, ?_, ?_, ?_⟩
      · rw [upd_ne nfl.symm, upd_same]
      · refine List.Perm.trans ?_ pm
        rw [List.append_assoc]
        exact (erase_perm ey).append_left fs
      · intro c o hc hne
        rw [upd_ne (ne_of_none hc nf'), upd_ne (ne_of_none hc nl')]
        exact b4 _ _ (s3 _ _ (bt c o hc hne)) hne
      · rw [List.length_append, List.length_singleton, ← Nat.add_assoc]
        exact d4.same (by rw [upd_ne nfa.symm, upd_ne nla.symm])
end
end K11
/-! Names and forms. -/
namespace K11
open PySem PySem.Spec PyProof.Rows L2 Kx
def letter (c : Nat) : Bool := decide (97 ≤ c) && decide (c ≤ 122)
def isNm (x : Str) : Bool := decide (1 ≤ x.length) && decide (x.length ≤ 8) && x.cps.all letter
theorem ascii_table : ((List.range 128).all fun c => (letter c == (Unicode.isAlpha c && !(Unicode.isUpper c || Unicode.isTitle c))) && (!letter c || Unicode.isLower c)) = true := by decide +kernel
theorem ascii_at {c : Nat} (h : c < 128) : letter c = (Unicode.isAlpha c && !(Unicode.isUpper c || Unicode.isTitle c)) ∧ (letter c = true → Unicode.isLower c = true) := by
  have z := List.all_eq_true.mp ascii_table c (List.mem_range.mpr h)
  rw [Bool.and_eq_true, beq_iff_eq] at z
  refine ⟨z.1, fun l => ?_⟩
  have y := z.2
  rw [l] at y
  simpa using y
theorem letter_ascii {c : Nat} (h : letter c = true) : c < 128 := by
  unfold letter at h
  simp at h
  omega
theorem name_txt (x : Str) : (Txt.isascii x && (Txt.isalpha x && Txt.islower x)) = (decide (1 ≤ x.length) && x.cps.all letter) := by
  rw [Bool.eq_iff_iff]
  simp only [Bool.and_eq_true, Txt.isascii, Txt.isalpha, Txt.islower, Array.all_eq_true, Array.any_eq_true, Bool.not_eq_true', decide_eq_true_eq]
  constructor
  · rintro ⟨h1, ⟨h2, h3⟩, h4, h5⟩
    refine ⟨h2, fun i hi => ?_⟩
    rw [(ascii_at (by simpa using h1 i hi)).1, h3 i hi, Bool.true_and, Bool.not_eq_true']
    exact (by
      have z : ¬ (x.cps.any fun c => Unicode.isUpper c || Unicode.isTitle c) = true := by rw [h5]; exact Bool.false_ne_true
      rw [Array.any_eq_true] at z
      cases e : (Unicode.isUpper x.cps[i] || Unicode.isTitle x.cps[i]) with
      | false => rfl
      | true => exact absurd ⟨i, hi, e⟩ z)
  · rintro ⟨h1, h2⟩
    have a : ∀ (i : Nat) (hi : i < x.cps.size), x.cps[i] < 128 := fun i hi => letter_ascii (h2 i hi)
    have b : ∀ (i : Nat) (hi : i < x.cps.size), Unicode.isAlpha x.cps[i] = true ∧ (Unicode.isUpper x.cps[i] || Unicode.isTitle x.cps[i]) = false := fun i hi => by
      have z := h2 i hi
      rw [(ascii_at (a i hi)).1] at z
      simpa using z
    refine ⟨fun i hi => by simpa using a i hi, ⟨h1, fun i hi => (b i hi).1⟩, ⟨0, h1, (ascii_at (a 0 h1)).2 (h2 0 h1)⟩, ?_⟩
    cases e : (x.cps.any fun c => Unicode.isUpper c || Unicode.isTitle c) with
    | false => rfl
    | true =>
      obtain ⟨i, hi, z⟩ := Array.any_eq_true.mp e
      rw [(b i hi).2] at z
      cases z
def nameD : PyData → Bool
  | .str x => isNm x
  | _ => false
/-- a tuple of a name and at most three others -/
def formD : PyData → Bool
  | .tuple (d :: ds) => decide (ds.length ≤ 3) && nameD d
  | _ => false
theorem kit_str : ∀ d : PyData, kitB (tyD d) "str" = some (match d with | .str _ => true | _ => false)
  | .none => (by decide +kernel : kitB "NoneType" "str" = some false)
  | .bool _ => (by decide +kernel : kitB "bool" "str" = some false)
  | .int _ => (by decide +kernel : kitB "int" "str" = some false)
  | .str _ => (by decide +kernel : kitB "str" "str" = some true)
  | .list _ => (by decide +kernel : kitB "list" "str" = some false)
  | .tuple _ => (by decide +kernel : kitB "tuple" "str" = some false)
  | .dict _ => (by decide +kernel : kitB "dict" "str" = some false)
theorem kit_tuple : ∀ d : PyData, kitB (tyD d) "tuple" = some (match d with | .tuple _ => true | _ => false)
  | .none => (by decide +kernel : kitB "NoneType" "tuple" = some false)
  | .bool _ => (by decide +kernel : kitB "bool" "tuple" = some false)
  | .int _ => (by decide +kernel : kitB "int" "tuple" = some false)
  | .str _ => (by decide +kernel : kitB "str" "tuple" = some false)
  | .list _ => (by decide +kernel : kitB "list" "tuple" = some false)
  | .tuple _ => (by decide +kernel : kitB "tuple" "tuple" = some true)
  | .dict _ => (by decide +kernel : kitB "dict" "tuple" = some false)
section
variable {P : Program} {w : World} {K : PySem.W.Frag} {mg : Str → Option Value} {base : Heap}
def spNm (K : PySem.W.Frag) : Sp := fun vs H Q _ => ∃ (x : V) (d : PyData), vs = [x] ∧ Dx K H x d ∧ (∀ y, d = .str y → y.length ≤ sizeLine) ∧ Q (.bl (nameD d)) H
theorem ok_name (T : Tx K mg) : FnOk P w K mg base CX0 1 T.ais_name T.dis_name ["value"] (spNm K) := by
  have nd := sc_is_name.nd
  obtain ⟨tk, hL⟩ := T.c_LONGEST_NAME
  refine T.fis_name.ok sc_is_name (fun vs H Q E h => ?_) (fun cdv A outer s H vs Q E hr h => ?_)
  · obtain ⟨x, d, rfl, _⟩ := h
    rfl
  · obtain ⟨x, d, rfl, hx, hz, q⟩ := h
    refine ⟨_, (pss_cons (ps_if (PW.pt (pw_or (pt_not (pt_val (pe_callB call_isi (by rfl) T.b_isinstance (by decide +kernel) (pa_cons (pv 0) (pa_cons (pe_bltn (v := .ty "str") (by rfl) T.b_str (by decide +kernel) rfl) pa_nil))))) (pw_or1 (pt_cmpR op_gt (pe_callB call_len_str (by rfl) T.b_len (by decide +kernel) (pa_cons (pv 0) pa_nil)) (pe_glob (v := .int 8) (by rfl) hL ⟨_, rfl⟩) (nomark _))))) (pss_one (ps_ret pe_bl)) pss_nil)
      (pss_one (ps_ret (pe_and (pe_bm0 PySem.F.plainAttrs_str PySem.F.slot_str_isascii PySem.F.type_str_isascii mt_isascii (pv 0)) (pe_and (pe_bm0 PySem.F.plainAttrs_str PySem.F.slot_str_isalpha PySem.F.type_str_isalpha mt_isalpha (pv 0)) (pe_one (pe_bm0 PySem.F.plainAttrs_str PySem.F.slot_str_islower PySem.F.type_str_islower mt_islower (pv 0)))))))), ?_⟩
    refine ⟨x, rfl, x, .ty "str", _, _, _, rfl, .ty _, hx.ty, kit_ty (kit_str d), _, rfl, ?_⟩
    cases hx with
    | str z =>
      refine iteF ⟨_, rfl, z, rfl, hz z rfl, _, _, rfl, rfl, _, rfl, ite2 (fun h8 => ?_) (fun h8 => ?_)⟩
      · -- too long
        have h9 := of_decide_eq_true h8
        have e : nameD (.str z) = false := by
          simp [nameD, isNm]
          omega
        rw [e] at q
        exact q
      · have h9 : z.length ≤ 8 := by
          simp at h8
          omega
        have e : nameD (.str z) = (Txt.isascii z && (Txt.isalpha z && Txt.islower z)) := by
          rw [name_txt]
          simp [nameD, isNm, h9]
        rw [e] at q
        refine ⟨_, rfl, rfl, z, rfl, rfl, trivial, _, rfl, ?_⟩
        cases e1 : Txt.isascii z with
        | false =>
          rw [e1] at q
          exact iteF q
        | true =>
          rw [e1, Bool.true_and] at q
          refine iteT ⟨_, rfl, rfl, z, rfl, rfl, trivial, _, rfl, ?_⟩
          cases e2 : Txt.isalpha z with
          | false =>
            rw [e2] at q
            exact iteF q
          | true =>
            rw [e2, Bool.true_and] at q
            exact iteT ⟨_, rfl, rfl, z, rfl, rfl, trivial, q⟩
    | non => exact iteT (iteT q)
    | bl b => exact iteT (iteT q)
    | int i => exact iteT (iteT q)
    | lst _ _ => exact iteT (iteT q)
    | tup _ _ => exact iteT (iteT q)
    | dic _ _ => exact iteT (iteT q)
/-- a value's form: a tuple of a name and at most three others -/
def spForm (K : PySem.W.Frag) : Sp := fun vs H Q _ => ∃ (x : V) (d : PyData), vs = [x] ∧ Dx K H x d ∧ (∀ ds, d = .tuple ds → ∀ y, .str y ∈ ds → y.length ≤ sizeLine) ∧ Q (.bl (formD d)) H
theorem ok_form (T : Tx K mg) : FnOk P w K mg base CX0 2 T.ahas_form T.dhas_form ["value"] (spForm K) := by
  have nd := sc_has_form.nd
  obtain ⟨tk, hM⟩ := T.c_MAX_PLACES
  have G := ok_name (P := P) (w := w) (base := base) T
  refine T.fhas_form.ok sc_has_form (fun vs H Q E h => ?_) (fun cdv A outer s H vs Q E hr h => ?_)
  · obtain ⟨x, d, rfl, _⟩ := h
    rfl
  · obtain ⟨x, d, rfl, hx, hz, q⟩ := h
    refine ⟨_, (pss_one (ps_ret (pe_and (pe_callB call_isi (by rfl) T.b_isinstance (by decide +kernel) (pa_cons (pv 0) (pa_cons (pe_bltn (v := .ty "tuple") (by rfl) T.b_tuple (by decide +kernel) rfl) pa_nil))) (pe_and (pe_chain op_le op_le pe_int (pe_callB call_len_seq (by rfl) T.b_len (by decide +kernel) (pa_cons (pv 0) pa_nil)) (pe_op op_add (pe_glob (v := .int 3) (by rfl) hM ⟨_, rfl⟩) pe_int)) (pe_one (pe_call G (hr.mono (by decide)) (by rfl) T.gis_name T.fis_name.kp T.nis_name .nil pass0 (pa_cons (pe_ix ix_tup (pv 0) pe_int (fun _ _ => rfl)) pa_nil))))))), ?_⟩
    refine ⟨x, rfl, x, .ty "tuple", _, _, _, rfl, .ty _, hx.ty, kit_ty (kit_tuple d), _, rfl, ?_⟩
    cases hx with
    | tup ha hs =>
      rename_i a xs ds
      have len := hs.length
      refine iteT ⟨_, rfl, a, xs, rfl, .inr (SqT.of ha), 1, _, rfl, rfl, _, rfl, ite2 (fun h1 => ?_) (fun h1 => ?_)⟩
      · have l1 : 0 < xs.length := by
          have := of_decide_eq_true h1
          omega
        refine ⟨3, 1, rfl, rfl, _, _, rfl, rfl, _, rfl, ite2 (fun h4 => ?_) (fun h4 => ?_)⟩
        · have l4 : xs.length ≤ 4 := by
            have := of_decide_eq_true h4
            omega
          cases hs with
          | nil => simp at l1
          | cons h0 ht =>
            rename_i v vs d ds
            refine ⟨_, rfl, a, _, 0, v, rfl, rfl, SqT.of ha, atI_nat (j := 0) rfl, v, d, rfl, h0, fun y e => hz _ rfl y (by rw [e]; exact List.mem_cons_self), ?_⟩
            have e : formD (.tuple (d :: ds)) = nameD d := by
              have := ht.length
              simp [formD]
              rw [List.length_cons] at l4
              omega
            rw [e] at q
            exact q
        · have e : formD (.tuple ds) = false := by
            cases ds with
            | nil => rfl
            | cons d ds =>
              rw [List.length_cons] at len
              simp [formD]
              intro z
              simp at h4
              omega
          rw [e] at q
          exact q
      · have e : formD (.tuple ds) = false := by
          cases ds with
          | nil => rfl
          | cons d ds =>
            rw [List.length_cons] at len
            simp at h1
            omega
        rw [e] at q
        exact ⟨_, rfl, iteF q⟩
    | non => exact iteF q
    | bl b => exact iteF q
    | int i => exact iteF q
    | lst _ _ => exact iteF q
    | str _ => exact iteF q
    | dic _ _ => exact iteF q
end
end K11
/-! What is a term, over data. -/
namespace K11
open PySem PySem.Spec PyProof.Rows L2 Kx
mutual
/-- how many parts, all counted -/
def szD : PyData → Nat
  | .tuple ds => szAll ds + 1
  | _ => 1
def szAll : List PyData → Nat
  | [] => 0
  | d :: ds => szD d + szAll ds
end
mutual
/-- of the form, all through -/
def formedD : PyData → Bool
  | .tuple (d :: ds) => decide (ds.length ≤ 3) && nameD d && formedAll ds
  | _ => false
def formedAll : List PyData → Bool
  | [] => true
  | d :: ds => formedD d && formedAll ds
end
abbrev NK := Str × Nat
def headD : PyData → Str
  | .str x => x
  | _ => Str.empty
mutual
/-- the names in a formed datum, with their places -/
def rowsD : PyData → List NK
  | .tuple (d :: ds) => (headD d, ds.length) :: rowsAll ds
  | _ => []
def rowsAll : List PyData → List NK
  | [] => []
  | d :: ds => rowsD d ++ rowsAll ds
end
mutual
/-- texts are short -/
def shortD : PyData → Bool
  | .str x => decide (x.length ≤ 1000)
  | .tuple ds => shortAll ds
  | _ => true
def shortAll : List PyData → Bool
  | [] => true
  | d :: ds => shortD d && shortAll ds
end
def Func (l : List NK) : Prop := ∀ p, p ∈ l → ∀ q, q ∈ l → p.1 = q.1 → p.2 = q.2
instance (l : List NK) : Decidable (Func l) := decidable_of_iff (∀ p ∈ l, ∀ q ∈ l, p.1 = q.1 → p.2 = q.2) ⟨fun h => h, fun h => h⟩
def termD (d : PyData) : Bool := formedD d && decide (Func (rowsD d))
theorem szD_pos (d : PyData) : 0 < szD d := by
  cases d <;> simp [szD]
theorem szAll_append : ∀ (l m : List PyData), szAll (l ++ m) = szAll l + szAll m
  | [], m => by simp [szAll]
  | d :: l, m => by simp [szAll, szAll_append l m, Nat.add_assoc]
theorem formedAll_append : ∀ (l m : List PyData), formedAll (l ++ m) = (formedAll l && formedAll m)
  | [], m => by simp [formedAll]
  | d :: l, m => by simp [formedAll, formedAll_append l m, Bool.and_assoc]
theorem rowsAll_append : ∀ (l m : List PyData), rowsAll (l ++ m) = rowsAll l ++ rowsAll m
  | [], m => by simp [rowsAll]
  | d :: l, m => by simp [rowsAll, rowsAll_append l m]
theorem shortAll_append : ∀ (l m : List PyData), shortAll (l ++ m) = (shortAll l && shortAll m)
  | [], m => by simp [shortAll]
  | d :: l, m => by simp [shortAll, shortAll_append l m, Bool.and_assoc]
theorem length_le_sz : ∀ l : List PyData, l.length ≤ szAll l
  | [] => Nat.le_refl _
  | d :: l => by
    have := length_le_sz l
    have := szD_pos d
    simp only [List.length_cons, szAll]
    omega
theorem Func.congr {l m : List NK} (h : ∀ p, p ∈ l ↔ p ∈ m) : Func l ↔ Func m :=
  ⟨fun f p hp q hq => f p ((h p).mpr hp) q ((h q).mpr hq), fun f p hp q hq => f p ((h p).mp hp) q ((h q).mp hq)⟩
/-- what is still to be seen: the names so far, the data that wait -/
def Todo (m : List NK) (st : List PyData) : Prop := formedAll st = true ∧ Func (m ++ rowsAll st)
theorem todo_one (d : PyData) : Todo [] [d] ↔ termD d = true := by
  simp [Todo, termD, formedAll, rowsAll]
theorem todo_bad {m : List NK} {st : List PyData} {e : PyData} (h : formD e = false) : ¬ Todo m (st ++ [e]) := by
  rintro ⟨h1, _⟩
  rw [formedAll_append] at h1
  simp [formedAll] at h1
  cases e with
  | tuple ds =>
    cases ds with
    | nil => simp [formedD] at h1
    | cons d ds =>
      simp [formD] at h
      simp [formedD] at h1
      obtain ⟨_, ⟨a, b⟩, c⟩ := h1
      have := h a
      rw [b] at this
      cases this
  | _ => simp [formedD] at h1
theorem todo_clash {m : List NK} {st ds : List PyData} {x : Str} {k : Nat} (h : (x, k) ∈ m) (hk : k ≠ ds.length) : ¬ Todo m (st ++ [.tuple (.str x :: ds)]) := by
  rintro ⟨_, h2⟩
  refine hk (h2 (x, k) (List.mem_append_left _ h) (x, ds.length) (List.mem_append_right _ ?_) rfl)
  rw [rowsAll_append]
  simp [rowsAll, rowsD, headD]
theorem todo_step {m m' : List NK} {st ds : List PyData} {x : Str} (hf : formD (.tuple (.str x :: ds)) = true) (hm : ∀ p, p ∈ m' ↔ p ∈ m ∨ p = (x, ds.length)) :
    Todo m (st ++ [.tuple (.str x :: ds)]) ↔ Todo m' (st ++ ds) := by
  unfold Todo
  rw [formedAll_append, formedAll_append, rowsAll_append, rowsAll_append]
  have e1 : formedAll [.tuple (.str x :: ds)] = formedAll ds := by
    simp [formD] at hf
    simp [formedAll, formedD, hf.1, hf.2]
  rw [e1]
  refine and_congr Iff.rfl (Func.congr fun p => ?_)
  simp only [List.mem_append, rowsAll, rowsD, headD, hm, List.append_nil, List.mem_cons]
  constructor
  · rintro (h | h | h | h)
    · exact .inl (.inl h)
    · exact .inr (.inl h)
    · exact .inl (.inr h)
    · exact .inr (.inr h)
  · rintro ((h | h) | h | h)
    · exact .inl h
    · exact .inr (.inr (.inl h))
    · exact .inr (.inl h)
    · exact .inr (.inr (.inr h))
theorem todo_done {m : List NK} (h : Func m) : Todo m [] := ⟨rfl, by simpa [rowsAll] using h⟩
end K11
/-! joint_places, is_term, is_cell, check_term. -/
namespace K11
open PySem PySem.Spec PyProof.Rows L2 Kx
theorem snocDx {K : PySem.W.Frag} {H : Hp} : ∀ {vs : List V} {st : List PyData} {e : PyData}, DxAll K H vs (st ++ [e]) → ∃ us v, vs = us ++ [v] ∧ DxAll K H us st ∧ Dx K H v e
  | _, [], e, h => by
    cases h with
    | cons a t =>
      cases t
      exact ⟨[], _, rfl, .nil, a⟩
  | _, d :: st, e, h => by
    cases h with
    | cons a t =>
      obtain ⟨us, v, rfl, q, r⟩ := snocDx t
      exact ⟨_ :: us, v, rfl, .cons a q, r⟩
theorem snoc_or {α : Type} (l : List α) : l = [] ∨ ∃ st e, l = st ++ [e] := by
  rcases List.eq_nil_or_concat l with h | ⟨st, e, h⟩
  · exact .inl h
  · exact .inr ⟨st, e, by rw [h, List.concat_eq_append]⟩
/-- a dict of names and places -/
def dictOf (m : List NK) : List (Key × V) := m.map fun p => (Sum.inr p.1, V.int p.2)
theorem val_some {x : Str} {v : V} : ∀ {m : List NK}, valV (dictOf m) (Sum.inr x) = some v → ∃ k, (x, k) ∈ m ∧ v = .int k
  | [], h => by cases h
  | p :: m, h => by
    by_cases e : p.1 = x
    · rw [show dictOf (p :: m) = (Sum.inr p.1, V.int p.2) :: dictOf m from rfl, valV_pos (by rw [e])] at h
      exact ⟨p.2, by rw [← e]; exact List.mem_cons_self, (Option.some.inj h).symm⟩
    · rw [show dictOf (p :: m) = (Sum.inr p.1, V.int p.2) :: dictOf m from rfl, valV_neg (fun z => e (Sum.inr.inj z))] at h
      obtain ⟨k, a, b⟩ := val_some h
      exact ⟨k, List.mem_cons_of_mem _ a, b⟩
theorem val_none {x : Str} : ∀ {m : List NK}, valV (dictOf m) (Sum.inr x) = none → ∀ k, (x, k) ∉ m
  | [], _, k => fun z => (nomatch z)
  | p :: m, h, k => by
    by_cases e : p.1 = x
    · rw [show dictOf (p :: m) = (Sum.inr p.1, V.int p.2) :: dictOf m from rfl, valV_pos (by rw [e])] at h
      cases h
    · rw [show dictOf (p :: m) = (Sum.inr p.1, V.int p.2) :: dictOf m from rfl, valV_neg (fun z => e (Sum.inr.inj z))] at h
      intro z
      rcases List.mem_cons.mp z with z | z
      · exact e (by rw [← z])
      · exact val_none h k z
theorem short_mem : ∀ {ds : List PyData} {y : Str}, shortAll ds = true → PyData.str y ∈ ds → y.length ≤ 1000
  | [], _, _, h => (nomatch h)
  | d :: ds, y, hs, h => by
    rw [shortAll, Bool.and_eq_true] at hs
    rcases List.mem_cons.mp h with e | h
    · rw [← e] at hs
      simpa [shortD] using hs.1
    · exact short_mem hs.2 h
theorem cut_one {xs : List V} (h : xs ≠ []) : cutV xs (some 1) none = xs.drop 1 := by
  unfold cutV
  rw [show HT.sIx xs.length 0 (some 1) = min 1 xs.length from HT.sIx_nat xs.length 0 1, HT.sIx_none]
  cases xs with
  | nil => exact absurd rfl h
  | cons x r =>
    rw [show min 1 (x :: r).length = 1 by rw [List.length_cons]; omega]
    simp
theorem iteNT {c A B : Prop} [Decidable c] (hc : ¬ c) (h : A) : if (!decide c) = true then A else B := by
  rw [decide_eq_false hc]
  exact iteT h
section
variable {P : Program} {w : World} {K : PySem.W.Frag} {mg : Str → Option Value} {base : Heap}
def jointD (ds : List PyData) : Bool := formedAll ds && decide (Func (rowsAll ds))
theorem joint_todo (ds : List PyData) : Todo [] ds ↔ jointD ds = true := by
  unfold Todo jointD
  rw [List.nil_append, Bool.and_eq_true, decide_eq_true_eq]
theorem joint_one (d : PyData) : jointD [d] = termD d := by
  unfold jointD termD
  simp [formedAll, rowsAll]
def spJointL (K : PySem.W.Frag) : Sp := fun vs H Q _ => ∃ (a : Addr) (xs : List V) (ds : List PyData), vs = [.ref a] ∧ SqL K H a xs ∧ DxAll K H xs ds ∧ shortAll ds = true ∧ szAll ds ≤ 100000 ∧
  ∀ v H', Same H H' → (jointD ds = false → v = .non) → (jointD ds = true → ∃ p ms, v = .ref p ∧ H p = none ∧ H' p = some (.dK (dictOf ms)) ∧ (ms.map Prod.fst).Nodup ∧ ms.length ≤ szAll ds ∧ ∀ r, r ∈ ms ↔ r ∈ rowsAll ds) → Q v H'
def spJoint (K : PySem.W.Frag) : Sp := fun vs H Q _ => ∃ (a : Addr) (x : V) (d : PyData), vs = [.ref a] ∧ SqL K H a [x] ∧ Dx K H x d ∧ shortD d = true ∧ szD d ≤ 100000 ∧
  ∀ v H', Same H H' → (termD d = false → v = .non) → (termD d = true → ∃ p ms, v = .ref p ∧ H p = none ∧ H' p = some (.dK (dictOf ms)) ∧ (ms.map Prod.fst).Nodup ∧ ms.length ≤ szD d ∧ ∀ r, r ∈ ms ↔ r ∈ rowsD d) → Q v H'
theorem ok_jointL (T : Tx K mg) : FnOk P w K mg base CX0 3 T.ajoint_places T.djoint_places ["values"] (spJointL K) := by
  have nd := sc_joint_places.nd
  have G := ok_form (P := P) (w := w) (base := base) T
  refine T.fjoint_places.ok sc_joint_places (fun vs H Q E h => ?_) (fun cdv A outer s H vs Q E hr h => ?_)
  · obtain ⟨a, xs0, d, rfl, _⟩ := h
    rfl
  · obtain ⟨a, xs0, d, rfl, ha, hx, hs, hz, q⟩ := h
    have hu := hu_of hr
    refine ⟨_, (pss_cons (ps_set (i := 1) nd rfl (.inl rfl) pe_dnewK)
      (pss_cons (ps_set (i := 2) nd rfl (.inl rfl) (pe_callTy call_list_of (by rfl) T.b_list (by decide +kernel) (pa_cons (pv 0) pa_nil)))
      (pss_cons (ps_while PassesOwn.never (pt_truth (pv 2) (by intro _; rfl)) (pss_cons (ps_set (i := 3) nd rfl (.inl rfl) (pe_bm0 PySem.F.plainAttrs_list PySem.F.slot_list_pop PySem.F.type_list_pop mt_pop (pv 2)))
      (pss_cons (ps_if (pt_not (pt_val (pe_call G (hr.mono (by decide)) (by rfl) T.ghas_form T.fhas_form.kp T.nhas_form .nil pass0 (pa_cons (pv 3) pa_nil)))) (pss_one (ps_ret pe_non)) pss_nil)
      (pss_cons (ps_set (i := 4) nd rfl (.inl rfl) (pe_op op_sub (pe_callB call_len_seq (by rfl) T.b_len (by decide +kernel) (pa_cons (pv 3) pa_nil)) pe_int))
      (C8.pss_cut (ps_if (pt_cmpR op_ne (pe_dsetd (pv 1) (pe_ix ix_tup (pv 3) pe_int (fun _ _ => rfl)) (pv 4) ⟨by rfl, by rfl, by rfl, by rfl⟩) (pv 4) (nomark _)) (pss_one (ps_ret pe_non)) pss_nil)
      (pss_one (ps_expr (pe_bm PySem.F.plainAttrs_list PySem.F.slot_list_extend PySem.F.type_list_extend mt_extT (pv 2) (pa_cons (pe_slice sl_tupA (pv 3) (po_some pe_int) po_none) pa_nil)))))))))
      (pss_one (ps_ret (pv 1)))))), ?_⟩
    -- places = {}; waiting = list(values)
    intro pl npl
    have s1 : Same H (upd H pl (.dK [])) := same_new npl
    refine ⟨_, rfl, a, xs0, rfl, .inl (s1.seq ha), fun wl nwl => ?_⟩
    have nwp : wl ≠ pl := fun e => by
      subst e
      rw [upd_same] at nwl
      cases nwl
    have nwl' : H wl = none := by rw [← nwl, upd_ne nwp]
    have s2 : Same H (upd (upd H pl (.dK [])) wl (.lst xs0)) := s1.trans (same_new nwl)
    refine ⟨fun m σ H2 => (∃ y3 y4, σ = [some (.ref a), some (.ref pl), some (.ref wl), y3, y4]) ∧ ∃ (vs : List V) (st : List PyData) (ms : List NK), m = szAll st ∧ H2 wl = some (.lst vs) ∧ H2 pl = some (.dK (dictOf ms)) ∧ Same H H2 ∧ DxAll K H vs st ∧
        shortAll st = true ∧ ms.length + szAll st ≤ szAll d ∧ Func ms ∧ (jointD d = true ↔ Todo ms st) ∧ (ms.map Prod.fst).Nodup ∧ (∀ r, (r ∈ ms ∨ r ∈ rowsAll st) ↔ r ∈ rowsAll d),
      ⟨szAll d, ⟨none, none, rfl⟩, xs0, d, [], rfl, upd_same, ?_, s2, hx, hs, by simp, fun p hp => (nomatch hp), (joint_todo d).symm, List.nodup_nil, fun r => by simp⟩, ?_⟩
    · rw [upd_ne nwp.symm, upd_same]
      rfl
    rintro m σ H2 ⟨⟨y3, y4, rfl⟩, vs, st, ms, rfl, ew, ep, sm, dx, sh, bd, fn, iff, nds, mem0⟩
    refine ⟨_, rfl, _, .inl ⟨vs, .inl (.inl ew), rfl⟩, ?_⟩
    rcases snoc_or st with rfl | ⟨st, e, rfl⟩
    · -- nothing waits
      cases dx
      refine iteF ⟨_, rfl, q _ _ sm (fun z => ?_) fun _ => ⟨pl, ms, rfl, npl, ep, nds, by omega, fun r => by rw [← mem0 r]; simp [rowsAll]⟩⟩
      rw [iff.mpr (todo_done fn)] at z
      cases z
    obtain ⟨us, v, rfl, dx', hv⟩ := snocDx dx
    have ne : (!(us ++ [v]).isEmpty) = true := by cases us <;> rfl
    rw [ne]
    rw [shortAll_append, Bool.and_eq_true] at sh
    have she : shortD e = true := by simpa [shortAll] using sh.2
    refine iteT ⟨fun σ' H' => ∃ m', m' < szAll (st ++ [e]) ∧ _, fun _ _ h => h, ?_⟩
    -- part = waiting.pop()
    refine ⟨_, rfl, .inl ⟨rfl, _, .inl (.inl ew)⟩, wl, _, v, rfl, rfl, ew, by simp, ?_⟩
    rw [List.dropLast_concat]
    have sm3 : Same H (upd H2 wl (.lst us)) := fun c o hc => by
      rw [upd_ne (ne_of_none hc nwl')]
      exact sm c o hc
    -- if not has_form(part): return None
    refine ⟨_, rfl, v, e, rfl, hv.up sm3, fun ds he y hy => ?_, _, rfl, ?_⟩
    · subst he
      refine Nat.le_trans (short_mem (by simpa [shortD] using she) hy) (by decide)
    cases hf : formD e with
    | false =>
      refine iteT (q .non _ sm3 (fun _ => rfl) fun z => ?_)
      exact absurd (iff.mp z) (todo_bad hf)
    | true =>
      obtain ⟨x1, es, rfl⟩ : ∃ x1 es, e = .tuple (.str x1 :: es) := by
        cases e with
        | tuple ds =>
          cases ds with
          | nil => cases hf
          | cons d0 ds =>
            simp only [formD, Bool.and_eq_true] at hf
            cases d0 with
            | str z => exact ⟨z, ds, rfl⟩
            | _ => cases hf.2
        | _ => cases hf
      cases hv with
      | tup hb hxs =>
      rename_i b xs
      cases hxs with
      | cons h0 hw =>
      rename_i v0 ws
      cases h0
      have lw := hw.length
      have l3 : es.length ≤ 3 := by
        simp only [formD, Bool.and_eq_true, decide_eq_true_eq] at hf
        exact hf.1
      -- many = len(part) - 1
      refine iteF ⟨_, rfl, b, _, rfl, .inr (SqT.of (sm3 _ _ hb)), _, 1, rfl, rfl, ?_⟩
      have em : ((V.str x1 :: ws).length : Int) - 1 = (es.length : Int) := by
        rw [List.length_cons]
        omega
      dsimp only
      rw [em]
      have ep3 : (upd H2 wl (.lst us)) pl = some (.dK (dictOf ms)) := by rw [upd_ne nwp.symm]; exact ep
      rw [szAll_append] at bd
      have z1 : szAll [PyData.tuple (.str x1 :: es)] = szAll es + 2 := by simp [szAll, szD]; omega
      rw [z1] at bd
      have lm : (dictOf ms).length < sizeLine := by
        rw [dictOf, List.length_map]
        exact Nat.lt_of_le_of_lt (show ms.length ≤ 100000 by omega) (by decide)
      have f0 : ∀ k, (x1, k) ∈ ms → k = es.length → Func ms := fun _ _ _ => fn
      -- places.setdefault(part[0], many) != many
      refine ⟨fun σ' H' => σ' = [some (.ref a), some (.ref pl), some (.ref wl), some (.ref b), some (.int es.length)] ∧ H' wl = some (.lst us) ∧ Same H H' ∧ ∃ ms', H' pl = some (.dK (dictOf ms')) ∧ (∀ p, p ∈ ms' ↔ p ∈ ms ∨ p = (x1, es.length)) ∧ Func ms' ∧ ms'.length ≤ ms.length + 1 ∧ (ms'.map Prod.fst).Nodup, ?_, ?_⟩
      · refine ⟨_, rfl, pl, rfl, .inl ⟨_, .inl ep3⟩, _, rfl, b, _, 0, _, rfl, rfl, SqT.of (sm3 _ _ hb), atI_nat (j := 0) rfl, _, rfl, dictOf ms, Sum.inr x1, ep3, rfl, lm, fun y hy => ?_, fun hy => ?_⟩
        · -- the name is there
          obtain ⟨k, mem, rfl⟩ := val_some hy
          by_cases hk : k = es.length
          · subst hk
            refine ⟨_, rfl, rfl, _, rfl, iteNS rfl ⟨rfl, upd_same, sm3, ms, ep3, fun p => ⟨.inl, fun z => ?_⟩, fn, Nat.le_succ _, nds⟩⟩
            rcases z with z | z
            · exact z
            · rw [z]
              exact mem
          · refine ⟨_, rfl, rfl, _, rfl, iteNT (fun z => hk ?_) (q .non _ sm3 (fun _ => rfl) fun z => ?_)⟩
            · have := V.int.inj z
              omega
            · exact absurd (iff.mp z) (todo_clash mem hk)
        · -- a new name
          have nk := val_none hy
          have npl' : H pl = none := npl
          refine ⟨_, rfl, rfl, _, rfl, iteNS rfl ⟨rfl, ?_, fun c o hc => ?_, ms ++ [(x1, es.length)], ?_, fun p => ?_, ?_, ?_, ?_⟩⟩
          · rw [upd_ne nwp, upd_same]
          · rw [upd_ne (ne_of_none hc npl')]
            exact sm3 c o hc
          · rw [upd_same, putK_new _ hy]
            simp [dictOf]
          · simp
          · rintro ⟨p1, p2⟩ hp ⟨r1, r2⟩ hr' e
            have e' : p1 = r1 := e
            subst e'
            simp only [List.mem_append, List.mem_singleton, Prod.mk.injEq] at hp hr'
            rcases hp with hp | ⟨g1, g2⟩
            · rcases hr' with hr' | ⟨g3, g4⟩
              · exact fn _ hp _ hr' rfl
              · subst g3
                exact absurd hp (nk _)
            · rcases hr' with hr' | ⟨g3, g4⟩
              · subst g1
                exact absurd hr' (nk _)
              · rw [g2, g4]
          · simp
          · rw [List.map_append, List.nodup_append]
            refine ⟨nds, by simp, fun a ha b hb e => ?_⟩
            obtain ⟨⟨r1, r2⟩, hr2, rfl⟩ := List.mem_map.mp ha
            simp at hb
            subst hb
            subst e
            exact nk _ hr2
      rintro σ' H' ⟨rfl, ew', sm', ms', ep', mem', fn', len', nds'⟩
      -- waiting.extend(part[1:])
      refine ⟨_, rfl, .inl ⟨rfl, _, .inl (.inl ew')⟩, _, rfl, 1, rfl, b, _, rfl, SqT.of (sm' _ _ hb), fun z => ?_, fun _ c nc => ?_⟩
      · exfalso
        have := z.1
        rw [show HT.sIx (V.str x1 :: ws).length 0 (some 1) = min 1 (V.str x1 :: ws).length from HT.sIx_nat _ 0 1, List.length_cons] at this
        omega
      have nwc : wl ≠ c := fun e => by
        rw [← e, ew'] at nc
        cases nc
      have npc : pl ≠ c := fun e => by
        rw [← e, ep'] at nc
        cases nc
      have lus := dx'.length
      have lst := length_le_sz st
      refine ⟨wl, c, us, ws, rfl, rfl, by rw [upd_ne nwc]; exact ew', ?_, ?_, ?_⟩
      · rw [cut_one (by simp)]
        exact SqT.of upd_same
      · exact Nat.le_trans (show us.length + ws.length ≤ 100003 by omega) (by decide)
      · refine ⟨szAll (st ++ es), ?_, ⟨_, _, rfl⟩, us ++ ws, st ++ es, ms', rfl, upd_same, ?_, fun d o hd => ?_, DxAll.append dx' hw, ?_, ?_, fn', iff.trans (todo_step hf mem'), nds', fun r => ?_⟩
        · rw [szAll_append, szAll_append, z1]
          omega
        · rw [upd_ne nwp.symm, upd_ne npc]
          exact ep'
        · rw [upd_ne (ne_of_none hd nwl'), upd_ne]
          · exact sm' d o hd
          · rintro rfl
            rw [sm' _ _ hd] at nc
            cases nc
        · rw [shortAll_append, sh.1]
          have z : x1.length ≤ 1000 ∧ shortAll es = true := by simpa [shortD, shortAll] using she
          simpa using z.2
        · rw [szAll_append]
          omega
        · rw [← mem0 r, mem' r, rowsAll_append, rowsAll_append]
          simp only [List.mem_append, rowsAll, rowsD, headD, List.append_nil, List.mem_cons]
          constructor
          · rintro ((h | h) | h | h)
            · exact .inl h
            · exact .inr (.inr (.inl h))
            · exact .inr (.inl h)
            · exact .inr (.inr (.inr h))
          · rintro (h | h | h | h)
            · exact .inl (.inl h)
            · exact .inr (.inl h)
            · exact .inl (.inr h)
            · exact .inr (.inr h)
theorem ok_joint (T : Tx K mg) : FnOk P w K mg base CX0 3 T.ajoint_places T.djoint_places ["values"] (spJoint K) := (ok_jointL T).imp fun vs H Q E h => by
  obtain ⟨a, x, d, rfl, ha, hx, hs, hz, q⟩ := h
  have e1 : szAll [d] = szD d := by simp [szAll]
  have e2 : rowsAll [d] = rowsD d := by simp [rowsAll]
  refine ⟨a, [x], [d], rfl, ha, .cons hx .nil, by simp [shortAll, hs], by rw [e1]; exact hz, fun v H' s h1 h2 => q v H' s (fun z => h1 (by rw [joint_one]; exact z)) fun z => ?_⟩
  obtain ⟨p, ms, a1, a2, a3, a4, a5, a6⟩ := h2 (by rw [joint_one]; exact z)
  exact ⟨p, ms, a1, a2, a3, a4, by rw [← e1]; exact a5, fun r => by rw [← e2]; exact a6 r⟩
end
end K11
/-! is_term, is_cell, check_term, make_term, make_cells. -/
namespace Kx
open PySem PySem.Spec PyProof.Rows L2
section
variable {X : Cx} {CX : CXT} {k : Nat} {f : Addr} {sp : Sp} {E : XK} {x : Str} {e : Expr} {es : List Expr} {t : TA} {p pos : Pos}
/-- f(e, ..), f a def with a star -/
theorem pe_callR (F : L2.FnR X.prog X.w X.K X.mg X.base CX k f sp) (hr : Room k X.A) (hg : Gl X x) (hm : X.mg x = some (.ref f)) (hk : PySem.W.keepIn X.K (.ref f) = true) (hx : Passes CX X E) (ha : PA X (e :: es) t) (hd : (x == ("__debug__" : Str)) = false := by decide)
    (he : starEach (e :: es) X.env = (false, eval e X.env) :: starEach es X.env := by rfl) (hpl : (backTo pos (starEach es X.env)).any (·.1) = false := by rfl) :
    PE X (.Call (.Name x p) (e :: es) [] pos) (tCall sp [] E t) := by
  refine ⟨fun pins s σ H Q I h => wpAny_Call_Name_kw (ld_glob I hg hm ?_ hd)⟩
  refine PySem.W.callWith_K (h₀ := X.base) I.ok.mod.kin hk (thn (ha.run pos pins s σ H _ I h) ?_) he hpl
  rintro us s1 ⟨vs, H1, I1, r, q⟩
  rw [List.append_nil] at q
  exact ⟨I1.kIn, wpAny_call (run_fnR F hr hx I1 r q)⟩
theorem pe_callR0 (F : L2.FnR X.prog X.w X.K X.mg X.base CX k f sp) (hr : Room k X.A) (hg : Gl X x) (hm : X.mg x = some (.ref f)) (hk : PySem.W.keepIn X.K (.ref f) = true) (hx : Passes CX X E) (hd : (x == ("__debug__" : Str)) = false := by decide) :
    PE X (.Call (.Name x p) [] [] pos) (tCall sp [] E tNil) := by
  refine ⟨fun pins s σ H Q I h => wpAny_Call_Name_kw (ld_glob I hg hm ?_ hd)⟩
  exact PySem.W.callWith_K0 I.kIn hk (wpAny_call (run_fnR F hr hx I .nil h))
end
end Kx
namespace K11
open PySem PySem.Spec PyProof.Rows L2 Kx
def cellD : PyData → Bool
  | .tuple ds => termD (.tuple ds) && decide (ds.length = 1)
  | _ => false
theorem cellD_eq {d : PyData} (h : termD d = true) : ∃ ds, d = .tuple ds := by
  cases d with
  | tuple ds => exact ⟨ds, rfl⟩
  | _ => simp [termD, formedD] at h
section
variable {P : Program} {w : World} {K : PySem.W.Frag} {mg : Str → Option Value} {base : Heap}
/-- x stands for d, of a bounded size -/
def Dz (K : PySem.W.Frag) (H : Hp) (x : V) (d : PyData) : Prop := Dx K H x d ∧ shortD d = true ∧ szD d ≤ 100000
theorem Dz.up {H H' : Hp} {x : V} {d : PyData} (h : Dz K H x d) (e : Same H H') : Dz K H' x d := ⟨h.1.up e, h.2⟩
def spTerm (K : PySem.W.Frag) : Sp := fun vs H Q _ => ∃ (x : V) (d : PyData), vs = [x] ∧ Dz K H x d ∧ ∀ H', Same H H' → Q (.bl (termD d)) H'
theorem ok_term (T : Tx K mg) : FnOk P w K mg base CX0 4 T.ais_term T.dis_term ["value"] (spTerm K) := by
  have nd := sc_is_term.nd
  have G := ok_joint (P := P) (w := w) (base := base) T
  refine T.fis_term.ok sc_is_term (fun vs H Q E h => ?_) (fun cdv A outer s H vs Q E hr h => ?_)
  · obtain ⟨x, d, rfl, _⟩ := h
    rfl
  · obtain ⟨x, d, rfl, ⟨hx, hs, hz⟩, q⟩ := h
    refine ⟨_, (pss_one (ps_ret (pe_cmpR op_notN (pe_call G (hr.mono (by decide)) (by rfl) T.gjoint_places T.fjoint_places.kp T.njoint_places .nil pass0 (pa_cons (pe_lst (pa_cons (pv 0) pa_nil)) pa_nil)) pe_non (nomark _)))), ?_⟩
    refine ⟨_, rfl, (by show 1 ≤ sizeLine; decide), fun p np => ?_⟩
    refine ⟨p, x, d, rfl, .inl (.inl upd_same), hx.up (same_new np), hs, hz, fun v H' sm n1 n2 => ⟨rfl, ?_⟩⟩
    have fin := q H' ((same_new np).trans sm)
    cases e : termD d with
    | false =>
      rw [e] at fin
      rw [n1 e]
      exact fin
    | true =>
      rw [e] at fin
      obtain ⟨c, _, ec, _⟩ := n2 e
      rw [ec]
      exact fin
def spCheck (K : PySem.W.Frag) : Sp := fun vs H Q _ => ∃ (x : V) (d : PyData), vs = [x] ∧ Dz K H x d ∧ termD d = true ∧ ∀ H', Same H H' → Q .non H'
theorem ok_check (T : Tx K mg) : FnOk P w K mg base CX0 5 T.acheck_term T.dcheck_term ["value"] (spCheck K) := by
  have nd := sc_check_term.nd
  have G := ok_term (P := P) (w := w) (base := base) T
  refine T.fcheck_term.ok sc_check_term (fun vs H Q E h => ?_) (fun cdv A outer s H vs Q E hr h => ?_)
  · obtain ⟨x, d, rfl, _⟩ := h
    rfl
  · obtain ⟨x, d, rfl, hx, ht, q⟩ := h
    refine ⟨_, (pss_one (ps_if (pt_not (pt_val (pe_call G (hr.mono (by decide)) (by rfl) T.gis_term T.fis_term.kp T.nis_term .nil pass0 (pa_cons (pv 0) pa_nil)))) (pss_one ps_never) pss_nil)), ?_⟩
    refine ⟨_, rfl, x, d, rfl, hx, fun H' sm => ⟨_, rfl, ?_⟩⟩
    rw [ht]
    exact iteF (q H' sm)
end
end K11
/-! Displays of data, all at once. -/
namespace Kx
open PySem PySem.Spec PyProof.Rows L2
/-- the heap without S -/
def OffS (S : List Addr) (H : Hp) : Hp := fun b => if b ∈ S then none else H b
def Olds (S : List Addr) (H : Hp) : Prop := ∀ b, b ∈ S → H b ≠ none
section
variable {S : List Addr} {H H' : Hp}
theorem OffS.of {b : Addr} {o : HO} (h : OffS S H b = some o) : b ∉ S ∧ H b = some o := by
  unfold OffS at h
  by_cases e : b ∈ S
  · rw [if_pos e] at h
    cases h
  · rw [if_neg e] at h
    exact ⟨e, h⟩
theorem OffS.out {b : Addr} {o : HO} (n : b ∉ S) (h : H b = some o) : OffS S H b = some o := by
  unfold OffS
  rw [if_neg n]
  exact h
theorem OffS.same (e : Same H H') : Same (OffS S H) (OffS S H') := fun b o h => by
  obtain ⟨n, h⟩ := OffS.of h
  exact OffS.out n (e b o h)
theorem OffS.all : Same (OffS S H) H := fun b o h => (OffS.of h).2
theorem Olds.up (h : Olds S H) (e : Same H H') : Olds S H' := fun b hb z => by
  have := h b hb
  cases k : H b with
  | none => exact this k
  | some o =>
    rw [e b o k] at z
    cases z
theorem Olds.new {p : Addr} (h : Olds S H) (e : H p = none) : p ∉ S := fun z => h p z e
theorem same_put {p : Addr} {o : HO} (h : H p = none) : Same H (upd H p o) := fun b x e => by
  rw [upd_ne (ne_of_none e h)]
  exact e
/-- te makes d anew -/
def Makes (K : PySem.W.Frag) (S : List Addr) (te : TE) (d : PyData) : Prop := ∀ (σ : L2.St) (H : Hp) (Q : VK), Olds S H → (∀ x H', Same H H' → Dx K (OffS S H') x d → Q x H') → te σ H Q
def MakesAll (K : PySem.W.Frag) (S : List Addr) (ta : TA) (ds : List PyData) : Prop := ∀ (σ : L2.St) (H : Hp) (Q : List V → Hp → Prop), Olds S H → (∀ xs H', Same H H' → DxAll K (OffS S H') xs ds → Q xs H') → ta σ H Q
variable {K : PySem.W.Frag} {te : TE} {ta : TA} {d : PyData} {ds : List PyData}
theorem mk_str (x : Str) : Makes K S (tC (.str x)) (.str x) := fun σ H Q _ q => q _ H (Same.refl H) (.str x)
theorem mk_int (i : Int) : Makes K S (tC (.int i)) (.int i) := fun σ H Q _ q => q _ H (Same.refl H) (.int i)
theorem mk_bl (b : Bool) : Makes K S (tC (.bl b)) (.bool b) := fun σ H Q _ q => q _ H (Same.refl H) (.bl b)
theorem mk_non : Makes K S (tC .non) .none := fun σ H Q _ q => q _ H (Same.refl H) .non
theorem mk_nil : MakesAll K S tNil [] := fun σ H Q _ q => q _ H (Same.refl H) .nil
theorem mk_cons (h1 : Makes K S te d) (h2 : MakesAll K S ta ds) : MakesAll K S (tCons te ta) (d :: ds) := fun σ H Q o q =>
  h1 σ H _ o fun x H1 s1 d1 => h2 σ H1 _ (o.up s1) fun xs H2 s2 d2 => q _ H2 (s1.trans s2) (.cons (d1.up (OffS.same s2)) d2)
theorem mk_tup (h : MakesAll K S ta ds) (few : ds.length ≤ sizeLine := by decide) : Makes K S (tTup ta) (.tuple ds) := fun σ H Q o q =>
  h σ H _ o fun xs H1 s1 d1 => ⟨by rw [d1.length]; exact few, fun p np => q _ _ (s1.trans (same_put np)) (.tup (OffS.out ((o.up s1).new np) upd_same) (d1.up (OffS.same (same_put np))))⟩
theorem mk_lst (h : MakesAll K S ta ds) (few : ds.length ≤ sizeLine := by decide) : Makes K S (tLst ta) (.list ds) := fun σ H Q o q =>
  h σ H _ o fun xs H1 s1 d1 => ⟨by rw [d1.length]; exact few, fun p np => q _ _ (s1.trans (same_put np)) (.lst (OffS.out ((o.up s1).new np) upd_same) (d1.up (OffS.same (same_put np))))⟩
theorem mk_dic0 : Makes K S tDNewK (.dict []) := fun σ H Q o q p np => q _ _ (same_put np) (.dic (OffS.out (o.new np) upd_same) .nil)
theorem mk_dic1 (k : Str) (i : Int) : Makes K S (tDisp [(tC (.str k), tC (.int i))]) (.dict [(.str k, .int i)]) := fun σ H Q o q p np => by
  refine ⟨upd_same, [(.inr k, .int i)], rfl, (by show 1 ≤ 15; decide), q _ _ (fun b u hb => ?_) (.dic (OffS.out (o.new np) upd_same) (KvD.int .nil))⟩
  have n := ne_of_none hb np
  rw [upd_ne n, upd_ne n]
  exact hb
/-- xs + ys of such lists -/
theorem mk_cat {tb : TE} {es : List PyData} (h1 : Makes K S te (.list ds)) (h2 : Makes K S tb (.list es)) (few : ds.length + es.length ≤ sizeLine := by decide) : Makes K S (tOp rCat te tb) (.list (ds ++ es)) := fun σ H Q o q =>
  h1 σ H _ o fun x H1 s1 d1 => h2 σ H1 _ (o.up s1) fun y H2 s2 d2 => by
    have d1 := d1.up (OffS.same s2)
    cases d1 with
    | lst ha hx =>
    cases d2 with
    | lst hb hy =>
    rename_i a xs b ys
    refine ⟨a, b, xs, ys, rfl, rfl, OffS.all _ _ ha, OffS.all _ _ hb, by rw [hx.length, hy.length]; exact few, fun p np => ?_⟩
    exact q _ _ (s1.trans (s2.trans (same_put np))) (.lst (OffS.out (((o.up s1).up s2).new np) upd_same) (DxAll.append (hx.up (OffS.same (same_put np))) (hy.up (OffS.same (same_put np)))))
/-- name = [..] of such data -/
theorem asg_mk {j : Nat} {rest : TS} {D : Ends} {σ : L2.St} (m : Makes K S te d) (o : Olds S H) (q : ∀ x H', Same H H' → Dx K (OffS S H') x d → rest D (σ.set j (some x)) H') : tSeq (tAsg te (gName j)) rest D σ H := m σ H _ o q
/-- name = name + [..] of such data -/
theorem cat_mk {j : Nat} {rest : TS} {D : Ends} {σ : L2.St} {i : Nat} {x : V} {es : List PyData} {tb : TE} (hx : σ[i]? = some (some x)) (d1 : Dx K (OffS S H) x (.list ds)) (m : Makes K S tb (.list es)) (few : ds.length + es.length ≤ sizeLine) (o : Olds S H)
    (q : ∀ x H', Same H H' → Dx K (OffS S H') x (.list (ds ++ es)) → rest D (σ.set j (some x)) H') : tSeq (tAsg (tOp rCat (tVar i) tb) (gName j)) rest D σ H :=
  ⟨x, hx, m σ H _ o fun y H2 s2 d2 => by
    have d1 := d1.up (OffS.same s2)
    cases d1 with
    | @lst a xs _ ha hx =>
    cases d2 with
    | @lst b ys _ hb hy =>
    refine ⟨a, b, xs, ys, rfl, rfl, OffS.all _ _ ha, OffS.all _ _ hb, by rw [hx.length, hy.length]; exact few, fun p np => ?_⟩
    exact q _ _ (s2.trans (same_put np)) (.lst (OffS.out ((o.up s2).new np) upd_same) (DxAll.append (hx.up (OffS.same (same_put np))) (hy.up (OffS.same (same_put np)))))⟩
end
end Kx
/-! A term of the turn. -/
namespace K11
open PySem PySem.Spec PyProof.Rows L2 Kx
/-- tuples stand -/
def Tups (H H' : Hp) : Prop := ∀ b xs, H b = some (.tup xs) → H' b = some (.tup xs)
theorem Tups.of {H H' : Hp} (x : Same H H') : Tups H H' := fun b xs h => x b _ h
theorem Tups.trans {H H1 H2 : Hp} (x : Tups H H1) (y : Tups H1 H2) : Tups H H2 := fun b xs h => y b xs (x b xs h)
theorem Tups.but {a : Addr} {n : Nat} {H H' : Hp} (x : But a H H') (d : Dice H a n) : Tups H H' := fun b xs h => by
  obtain ⟨_, _, _, z, _⟩ := d
  exact x b _ h (ne_of h z (fun e => nomatch e))
theorem Tups.lst {D : Addr} {H : Hp} {xs ys : List V} (h : H D = some (.lst xs)) : Tups H (upd H D (.lst ys)) := fun b zs e => by
  rw [upd_ne (ne_of e h (fun e => nomatch e))]
  exact e
mutual
/-- no list, no dict -/
def pureD : PyData → Bool
  | .list _ => false
  | .dict _ => false
  | .tuple ds => pureAll ds
  | _ => true
def pureAll : List PyData → Bool
  | [] => true
  | d :: ds => pureD d && pureAll ds
end
mutual
theorem Dx.ts {K : PySem.W.Frag} {H H' : Hp} (t : Tups H H') : ∀ (d : PyData) (x : V), pureD d = true → Dx K H x d → Dx K H' x d
  | .none, _, _, h => by cases h; exact .non
  | .bool b, _, _, h => by cases h; exact .bl b
  | .int i, _, _, h => by cases h; exact .int i
  | .str x, _, _, h => by cases h; exact .str x
  | .list ds, _, e, h => by cases e
  | .tuple ds, _, e, h => by cases h with | tup a b => exact .tup (t _ _ a) (DxAll.ts t ds _ (by simpa [pureD] using e) b)
  | .dict ds, _, e, h => by cases e
theorem DxAll.ts {K : PySem.W.Frag} {H H' : Hp} (t : Tups H H') : ∀ (ds : List PyData) (xs : List V), pureAll ds = true → DxAll K H xs ds → DxAll K H' xs ds
  | [], _, _, h => by cases h; exact .nil
  | d :: ds, _, e, h => by
    have e : pureD d = true ∧ pureAll ds = true := by simpa [pureAll] using e
    cases h with | cons a b => exact .cons (Dx.ts t d _ e.1 a) (DxAll.ts t ds _ e.2 b)
end
theorem pure_name {d : PyData} (h : nameD d = true) : pureD d = true := by
  cases d with
  | str x => rfl
  | _ => cases h
mutual
theorem pure_formed : ∀ (d : PyData), formedD d = true → pureD d = true
  | .none, h => rfl
  | .bool _, h => rfl
  | .int _, h => rfl
  | .str _, h => rfl
  | .list ds, h => by cases h
  | .dict ds, h => by cases h
  | .tuple [], h => rfl
  | .tuple (d :: ds), h => by
    simp only [formedD, Bool.and_eq_true] at h
    simp only [pureD, pureAll, Bool.and_eq_true]
    exact ⟨pure_name h.1.2, pure_formedAll ds h.2⟩
theorem pure_formedAll : ∀ (ds : List PyData), formedAll ds = true → pureAll ds = true
  | [], h => rfl
  | d :: ds, h => by
    simp only [formedAll, Bool.and_eq_true] at h
    simp only [pureAll, Bool.and_eq_true]
    exact ⟨pure_formed d h.1, pure_formedAll ds h.2⟩
end
theorem formedAll_snoc {ds : List PyData} {d : PyData} : formedAll (ds ++ [d]) = (formedAll ds && formedD d) := by
  rw [formedAll_append]
  simp [formedAll]
theorem depthAll_snoc {n : Nat} : ∀ {ds : List PyData} {d : PyData}, PyData.depthAll ds ≤ n → d.depth ≤ n → PyData.depthAll (ds ++ [d]) ≤ n
  | [], d, _, h => by simpa [PyData.depthAll] using h
  | e :: ds, d, h1, h2 => by
    rw [List.cons_append, PyData.depthAll]
    rw [PyData.depthAll] at h1
    have := depthAll_snoc (ds := ds) (d := d) (n := n) (by omega) h2
    omega
theorem formed_shape {d : PyData} (h : formedD d = true) : ∃ x ds, d = .tuple (.str x :: ds) ∧ ds.length ≤ 3 ∧ isNm x = true ∧ formedAll ds = true := by
  cases d with
  | tuple ds =>
    cases ds with
    | nil => cases h
    | cons d0 ds =>
      simp only [formedD, Bool.and_eq_true, decide_eq_true_eq] at h
      cases d0 with
      | str z => exact ⟨z, ds, rfl, h.1.1, h.1.2, h.2⟩
      | _ => cases h.1.2
  | _ => cases h
theorem formedAll_get : ∀ {ds : List PyData} {i : Nat} {d : PyData}, formedAll ds = true → ds[i]? = some d → formedD d = true
  | [], _, _, _, h => by simp at h
  | x :: ds, 0, d, hf, h => by
    simp at h
    rw [formedAll, Bool.and_eq_true, h] at hf
    exact hf.1
  | x :: ds, i + 1, d, hf, h => by
    rw [formedAll, Bool.and_eq_true] at hf
    exact formedAll_get hf.2 (by simpa using h)
theorem depthAll_get : ∀ {ds : List PyData} {i : Nat} {d : PyData}, ds[i]? = some d → d.depth ≤ PyData.depthAll ds
  | [], _, _, h => by simp at h
  | x :: ds, 0, d, h => by
    simp at h
    rw [h, PyData.depthAll]
    omega
  | x :: ds, i + 1, d, h => by
    have := depthAll_get (ds := ds) (i := i) (d := d) (by simpa using h)
    rw [PyData.depthAll]
    omega
theorem rowsAll_take : ∀ {ds : List PyData} {i : Nat} {d : PyData}, ds[i]? = some d → rowsAll (ds.take (i + 1)) = rowsAll (ds.take i) ++ rowsD d
  | ds, i, d, h => by
    rw [List.take_add_one, h, rowsAll_append]
    simp [rowsAll]
theorem rowsAll_take_le : ∀ (ds : List PyData) (i : Nat), (rowsAll (ds.take i)).length ≤ (rowsAll ds).length
  | ds, i => by
    have e := List.take_append_drop i ds
    have z : rowsAll (ds.take i ++ ds.drop i) = rowsAll ds := by rw [e]
    rw [rowsAll_append] at z
    rw [← z, List.length_append]
    omega
end K11
/-! t[:1:-1] of a tuple of two to four. -/
namespace Kx
open PySem PySem.Spec PyProof.Rows L2 HT
section
variable {prog : Program} {w : World} {A : Around} {E : Value → Shared → Prop} {s : Shared}
theorem back_adjust {n : Nat} (h : 2 ≤ n) : Builtin.Slice.sliceAdjust none (some 1) (-1) (n : Int) = ((n : Int) - 1, 1) := by
  have neg : (-1 : Int) < 0 := by decide
  unfold Builtin.Slice.sliceAdjust
  simp only [neg, if_true]
  refine Prod.ext ?_ ?_
  · rfl
  · have no : ¬ ((1 : Int) < 0) := by decide
    simp only [no, if_false]
    omega
theorem back_places {n : Nat} (h : 2 ≤ n) : Builtin.Slice.slicePlaces ((n : Int) - 1) 1 (-1) = n - 2 := by
  unfold Builtin.Slice.slicePlaces
  have no : ¬ ((-1 : Int) > 0) := by decide
  simp only [no, if_false]
  rw [show -(-1 : Int) = 1 from rfl, Int.ediv_one]
  split <;> omega
theorem back_pick : ∀ {xs : List Value}, 2 ≤ xs.length → xs.length ≤ 4 → ((List.range (xs.length - 2)).filterMap fun (m : Nat) => xs.toArray[((xs.length : Int) - 1 + (m : Int) * -1).toNat]?) = (xs.drop 2).reverse
  | [a, b], _, _ => rfl
  | [a, b, c], _, _ => rfl
  | [a, b, c, d], _, _ => rfl
  | [], h, _ => by simp at h
  | [_], h, _ => by simp at h
  | _ :: _ :: _ :: _ :: _ :: _, _, h => by simp at h
theorem back_applied {sl : Addr} {vl vu vs : Value} {n : Nat} {Q : Int × Int × Nat → Shared → Prop} (hn : 2 ≤ n) (hs : s.heap.IsSliceOf sl vl vu vs) (pl : IsPart vl none) (pu : IsPart vu (some 1)) (ps : IsPart vs (some (-1)))
    (h : Q ((n : Int) - 1, -1, n - 2) s) : wpAny (model prog w) A (Builtin.Slice.sliceApplied (.ref sl) (pure (n : Int))) Q E s := by
  obtain ⟨ob, h1, h2, h3⟩ := id hs
  unfold Builtin.Slice.sliceApplied Builtin.Slice.sliceFields
  refine wpAny_bind (wpAny_bind (wpAny_field h1 h3 (x := vl) rfl (wpAny_bind (wpAny_field h1 h3 (x := vu) rfl (wpAny_bind (wpAny_field h1 h3 (x := vs) rfl (wpAny_pure ?_)))))))
  refine wpAny_bind (slicePart_ ps ?_)
  show wpAny _ _ (if ((-1 : Int) == 0) = true then _ else _) _ _ s
  rw [if_neg (by decide)]
  refine wpAny_bind (slicePart_ pl (wpAny_bind (slicePart_ pu (wpAny_bind (wpAny_pure ?_)))))
  show wpAny _ _ (match Builtin.Slice.sliceAdjust none (some 1) (-1) (n : Int) with | (lo, hi) => pure (lo, (-1 : Int), Builtin.Slice.slicePlaces lo hi (-1))) _ _ s
  rw [back_adjust hn]
  show wpAny _ _ (pure ((n : Int) - 1, (-1 : Int), Builtin.Slice.slicePlaces ((n : Int) - 1) 1 (-1))) _ _ s
  rw [back_places hn]
  exact wpAny_pure h
theorem getItem_back {t sl : Addr} {xs : List Value} {vl vu vs : Value} {Q : Value → Shared → Prop} (ht : IsTup s.heap t xs.toArray) (h2 : 2 ≤ xs.length) (h4 : xs.length ≤ 4) (hs : s.heap.IsSliceOf sl vl vu vs) (pl : IsPart vl none) (pu : IsPart vu (some 1)) (ps : IsPart vs (some (-1)))
    (h : Q (.ref s.heap.objs.size) { s with heap := s.heap.push { cls := .type "tuple", data := .seq (xs.drop 2).reverse.toArray } }) : wpAny (model prog w) A (getItem (.ref t) (.ref sl)) Q E s := by
  have few : sizeOk (.seq (xs.drop 2).reverse.toArray) := by
    show (xs.drop 2).reverse.toArray.size ≤ sizeLine
    rw [List.size_toArray, List.length_reverse, List.length_drop]
    exact Nat.le_trans (show xs.length - 2 ≤ 4 by omega) (by decide)
  obtain ⟨ob, ho, hc, hd⟩ := id hs
  have isS : s.TypeIs (.ref sl) "slice" := ⟨ob, ho, hc⟩
  unfold getItem
  try with_reducible refine wpAny_holding ?_
  first | refine wpAny_bind (wpAny_pure ?_) | skip
  refine wpAny_bind (wpAny_sequenceKey ht.typeIs (by decide) ?_)
  refine wpAny_bind (wpAny_callSpecial?_slot (name := Str.ofString "__getitem__") ht.typeIs PyProof.Rows.slot_tuple_getitem
    (wpAny_call_entry PyProof.Rows.slot_tuple_getitem ht.typeIs entry_tuple_getitem ?_ (args_tuple_getitem _ _)))
  show wpAny _ _ (Builtin.Tuple.tupleItemsOf (.ref t) >>= _) _ _ s
  refine wpAny_bind (tupleItemsOf_ ht ?_)
  refine wpAny_bind (wpAny_typeOf isS ?_)
  rw [if_pos (by decide)]
  have sz : xs.toArray.size = xs.length := List.size_toArray ..
  refine wpAny_bind (back_applied (n := xs.toArray.size) (by rw [sz]; exact h2) hs pl pu ps ?_)
  rw [sz]
  have no : ¬ ((((xs.length : Int) - 1) == 0 && (-1 : Int) == 1 && (xs.length - 2) == xs.length) = true) := by simp
  show wpAny _ _ (if (((xs.length : Int) - 1) == 0 && (-1 : Int) == 1 && (xs.length - 2) == xs.length) = true then _ else _) _ _ s
  rw [if_neg no, back_pick h2 h4]
  first
    | exact wpAny_bind (m := Builtin.Tuple.tupleExact _) (wpAny_newObj_type (wpAny_pure ⟨_, rfl, wpAny_pure h⟩) few)
    | exact wpAny_bind (m := Builtin.Tuple.tupleExact _) (wpAny_newObj_type (wpAny_bind (wpAny_pure (wpAny_pure ⟨_, rfl, wpAny_pure h⟩))) few)
    | exact wpAny_bind (wpAny_bind (m := Builtin.Tuple.tupleExact _) (wpAny_newObj_type (wpAny_pure (wpAny_pure ⟨_, rfl, wpAny_pure h⟩)) few))
    | exact wpAny_bind (wpAny_bind (m := Builtin.Tuple.tupleExact _) (wpAny_newObj_type (wpAny_pure ⟨_, rfl, wpAny_pure h⟩) few))
end
/-- t[:1:-1], t of two to four: what stands behind the second, from the end -/
def tBack (K : PySem.W.Frag) (te : TE) : TE := fun σ H Q => te σ H fun x H1 => ∃ a xs, x = .ref a ∧ SqT K H1 a xs ∧ 2 ≤ xs.length ∧ xs.length ≤ 4 ∧ ∀ p, H1 p = none → Q (.ref p) (upd H1 p (.tup (xs.drop 2).reverse))
section
variable {X : Cx}
theorem pe_back {e : Expr} {te : TE} {k k2 : Nat} {p1 p2 p3 p4 pos : Pos} (he : PE X e te) : PE X (.Subscript e (.Slice none (some (.Constant (.int 1) k2 p4)) (some (.UnaryOp .USub (.Constant (.int 1) k p1) p2)) p3) pos) (tBack X.K te) := by
  refine ⟨fun pins s σ H Q I h => ?_⟩
  refine Subscript_ (thn (he.run pins s σ H _ I h) fun v s1 ⟨x, H1, I1, r1, q1⟩ => ?_)
  obtain ⟨a, xs, ex, hx, l2, l4, q⟩ := q1
  subst ex
  cases r1
  have hlo : PO X (some (.Constant (.int 1) k2 p4)) (tPart (tC (.int 1))) := po_some pe_int
  have hst : PO X (some (.UnaryOp .USub (.Constant (.int 1) k p1) p2)) (tPart (tUn (rU fun i => .int (-i)) (tC (.int 1)))) := po_some (pe_un un_neg pe_int)
  refine wpAny_Slice (thn (po_none.run pins s1 σ H1 (fun o G => o = none ∧ G = H1) I1 ⟨rfl, rfl⟩) fun vl s2 ⟨l, H2, I2, pl, el, e2⟩ => ?_)
  subst el e2
  refine thn (hlo.run pins s2 σ H2 (fun o G => o = some 1 ∧ G = H2) I2 ⟨1, rfl, rfl, rfl⟩) fun vu s3 ⟨u, H3, I3, pu, eu, e3⟩ => ?_
  subst eu e3
  refine thn (hst.run pins s3 σ H3 (fun o G => o = some (-1) ∧ G = H3) I3 ⟨1, rfl, -1, rfl, rfl, rfl⟩) fun vs s4 ⟨o, H4, I4, ps, eo, e4⟩ => ?_
  subst eo e4
  have I5 : Inv X pins σ H4 { s4 with heap := s4.heap.push { cls := .type "slice", data := .fields #[vl, vu, vs] } } := I4.kept (t' := s4.toks) fun b ob q => Heap.get?_push_of_some _ q
  obtain ⟨its, r, ht, hz⟩ := I5.tuple hx
  have hlen := r.length
  show wpAny (model X.prog X.w) X.A (subscriptTail e (.Slice none (some (.Constant (.int 1) k2 p4)) (some (.UnaryOp .USub (.Constant (.int 1) k p1) p2)) p3) (.ref a) (.ref s4.heap.objs.size)) (EP X pins σ Q) X.xe { s4 with heap := s4.heap.push { cls := .type "slice", data := .fields #[vl, vu, vs] } }
  refine tail_any (ops := [.ref a, .ref s4.heap.objs.size]) ht.typeIs (PyProof.Rows.slot_tuple_getitem.lookup) ?_ (by with_unfolding_all rfl)
  refine getItem_back ht (by omega) (by omega) (Heap.IsSliceOf.new _ vl vu vs) pl pu ps ?_
  refine ⟨.ref _, _, I5.laid (t' := s4.toks) (o := .tup (xs.drop 2).reverse) (fun b ob q => Heap.get?_push_of_some _ q) (Nat.le_refl _) ?_, rfl, q _ (I5.hok.fresh (Nat.le_refl _))⟩
  exact ⟨by rw [List.length_reverse, List.length_drop]; omega, _, (r.drop 2).reverse, IsTup.new _ _⟩
end
end Kx
/-! Texts of terms. -/
namespace K11
open PySem PySem.Spec PyProof.Rows L2 Kx
/-- a text of signs -/
def tS (l : List Nat) : Str := ⟨l.toArray⟩
theorem tS_list (x : Str) : tS x.cps.toList = x := by
  cases x
  rfl
theorem tS_app (l m : List Nat) : tS l ++ tS m = tS (l ++ m) := by
  show Str.append _ _ = _
  unfold Str.append tS
  simp
theorem str_app (x y : Str) : (x ++ y).cps.toList = x.cps.toList ++ y.cps.toList := by
  show (Str.append x y).cps.toList = _
  unfold Str.append
  simp
theorem tS_len (l : List Nat) : (tS l).length = l.length := by
  show l.toArray.size = _
  simp
def catS (ws : List Str) : List Nat := ws.flatMap fun w => w.cps.toList
theorem catS_snoc (ws : List Str) (x : Str) : catS (ws ++ [x]) = catS ws ++ x.cps.toList := by
  simp [catS, List.flatMap_append]
theorem glue_fold (g : Array Nat) : ∀ (ps : List Str) (a : Array Nat), (ps.foldl (fun acc p => acc ++ g ++ p.cps) a).toList = a.toList ++ ps.flatMap fun p => g.toList ++ p.cps.toList
  | [], a => by simp
  | p :: ps, a => by
    rw [List.foldl_cons, glue_fold g ps, List.flatMap_cons]
    simp
theorem join_none (ws : List Str) : Txt.join "" ws = tS (catS ws) := by
  have e : (Txt.join "" ws).cps.toList = catS ws := by
    cases ws with
    | nil => rfl
    | cons x ws =>
      show (((x :: ws).drop 1).foldl (fun acc p => acc ++ (("" : Str)).cps ++ p.cps) x.cps).toList = _
      rw [glue_fold]
      rfl
  rw [← tS_list (Txt.join "" ws), e]
theorem join_comma : ∀ (w : Str) (ws : List Str), Txt.join "," (w :: ws) = tS (w.cps.toList ++ ws.flatMap fun p => 44 :: p.cps.toList)
  | w, ws => by
    have e : (Txt.join "," (w :: ws)).cps.toList = w.cps.toList ++ ws.flatMap fun p => 44 :: p.cps.toList := by
      show (((w :: ws).drop 1).foldl (fun acc p => acc ++ (("," : Str)).cps ++ p.cps) w.cps).toList = _
      rw [glue_fold]
      rfl
    rw [← tS_list (Txt.join "," (w :: ws)), e]
def nmC : PyData → List Nat
  | .str x => x.cps.toList
  | _ => []
mutual
/-- the text of a formed datum -/
def tx : PyData → List Nat
  | .tuple (d :: ds) => nmC d ++ txA ds
  | _ => []
def txA : List PyData → List Nat
  | [] => []
  | e :: es => 40 :: (tx e ++ (txM es ++ [41]))
def txM : List PyData → List Nat
  | [] => []
  | e :: es => 44 :: (tx e ++ txM es)
end
/-- what an item that waits will give -/
def rx : PyData → List Nat
  | .str x => x.cps.toList
  | d => tx d
/-- the items that wait, the last first -/
def rxs (st : List PyData) : List Nat := st.reverse.flatMap rx
theorem rxs_snoc (st : List PyData) (e : PyData) : rxs (st ++ [e]) = rx e ++ rxs st := by
  simp [rxs]
mutual
/-- the steps that an item takes -/
def wt : PyData → Nat
  | .tuple ds => wtA ds + 2
  | _ => 1
def wtA : List PyData → Nat
  | [] => 0
  | d :: ds => wt d + 1 + wtA ds
end
theorem wtA_app : ∀ l m : List PyData, wtA (l ++ m) = wtA l + wtA m
  | [], m => by simp [wtA]
  | d :: l, m => by
    rw [List.cons_append, wtA, wtA, wtA_app l m]
    omega
def wts (st : List PyData) : Nat := (st.map wt).sum
theorem wts_snoc (st : List PyData) (e : PyData) : wts (st ++ [e]) = wts st + wt e := by
  simp [wts]
theorem wt_pos (d : PyData) : 0 < wt d := by
  cases d <;> simp [wt]
/-- commas between, from the end -/
def commas : List PyData → List PyData
  | [] => []
  | d :: ds => commas ds ++ [d, .str ","]
theorem rxs_app (a b : List PyData) : rxs (a ++ b) = rxs b ++ rxs a := by
  simp [rxs]
theorem rxs_commas : ∀ (st ds : List PyData), formedAll ds = true → rxs (st ++ commas ds) = txM ds ++ rxs st
  | st, [], _ => by simp [commas, txM]
  | st, d :: ds, h => by
    rw [formedAll, Bool.and_eq_true] at h
    have ih := rxs_commas st ds h.2
    have e1 : st ++ commas (d :: ds) = (st ++ commas ds) ++ [d] ++ [.str ","] := by simp [commas]
    have e2 : rx d = tx d := by
      cases d with
      | str x => cases h.1
      | _ => rfl
    rw [e1, rxs_snoc, rxs_snoc, ih, txM, e2]
    show [44] ++ _ = _
    simp
theorem wts_commas : ∀ (ds : List PyData), wts (commas ds) = wtA ds
  | [] => rfl
  | d :: ds => by
    have ih := wts_commas ds
    have e : commas (d :: ds) = commas ds ++ [d] ++ [.str ","] := by simp [commas]
    rw [e, wts_snoc, wts_snoc, ih, wtA]
    simp only [wt]
    omega
end K11
/-! written. -/
namespace K11
open PySem PySem.Spec PyProof.Rows L2 Kx
theorem wts_len : ∀ st : List PyData, st.length ≤ wts st
  | [] => Nat.le_refl _
  | e :: st => by
    have := wts_len st
    have := wt_pos e
    simp only [wts, List.map_cons, List.sum_cons, List.length_cons] at *
    omega
theorem commas_len : ∀ ds : List PyData, (commas ds).length = 2 * ds.length
  | [] => rfl
  | d :: ds => by
    have := commas_len ds
    simp only [commas, List.length_append, List.length_cons, List.length_nil]
    omega
theorem wts_app (a b : List PyData) : wts (a ++ b) = wts a + wts b := by simp [wts]
theorem commas_ok : ∀ {ds : List PyData}, formedAll ds = true → ∀ e, e ∈ commas ds → formedD e = true ∨ ∃ y, e = .str y
  | [], _, e, h => nomatch h
  | d :: ds, hf, e, h => by
    rw [formedAll, Bool.and_eq_true] at hf
    rcases List.mem_append.mp h with h | h
    · exact commas_ok hf.2 e h
    · rcases List.mem_cons.mp h with rfl | h
      · exact .inl hf.1
      · rw [List.mem_singleton.mp h]
        exact .inr ⟨_, rfl⟩
theorem drop_at {α : Type} {l : List α} {j : Nat} {y : α} (h : l[j]? = some y) : l.drop j = y :: l.drop (j + 1) := by
  have lt := (List.getElem?_eq_some_iff.mp h).1
  rw [List.getElem?_eq_getElem lt] at h
  rw [List.drop_eq_getElem_cons lt, Option.some.inj h]
theorem rev_at {α : Type} {l : List α} {i : Nat} {y : α} (h : l.reverse[i]? = some y) : i < l.length ∧ l[l.length - 1 - i]? = some y := by
  have lt := (List.getElem?_eq_some_iff.mp h).1
  rw [List.length_reverse] at lt
  rw [List.getElem?_reverse lt] at h
  exact ⟨lt, h⟩
def okI (e : PyData) : Prop := formedD e = true ∨ ∃ y, e = .str y
section
variable {P : Program} {w : World} {K : PySem.W.Frag} {mg : Str → Option Value} {base : Heap}
def spWr (K : PySem.W.Frag) : Sp := fun vs H Q _ => ∃ (x : V) (d : PyData), vs = [x] ∧ Dx K H x d ∧ formedD d = true ∧ wt d ≤ 100000 ∧ (tx d).length ≤ 1000000 ∧ ∀ H', Same H H' → Q (.str (tS (tx d))) H'
theorem ok_wr (T : Tx K mg) : FnOk P w K mg base CX0 1 T.awritten T.dwritten ["term"] (spWr K) := by
  have nd := sc_written.nd
  refine T.fwritten.ok sc_written (fun vs H Q E h => ?_) (fun cdv A outer s H vs Q E hr h => ?_)
  · obtain ⟨x, d, rfl, _⟩ := h
    rfl
  · obtain ⟨x, d, rfl, hx, hf, hw, hl, q⟩ := h
    refine ⟨_, (pss_cons (ps_set (i := 1) nd rfl (.inl rfl) (pe_lst pa_nil))
      (pss_cons (ps_set (i := 2) nd rfl (.inl rfl) (pe_lst (pa_cons (pv 0) pa_nil)))
      (pss_cons (ps_while PassesOwn.never (pt_truth (pv 2) (by intro _; rfl)) (pss_cons (ps_set (i := 3) nd rfl (.inl rfl) (pe_bm0 PySem.F.plainAttrs_list PySem.F.slot_list_pop PySem.F.type_list_pop mt_pop (pv 2)))
      (pss_one (ps_if (pt_val (pe_callB call_isi (by rfl) T.b_isinstance (by decide +kernel) (pa_cons (pv 3) (pa_cons (pe_bltn (v := .ty "str") (by rfl) T.b_str (by decide +kernel) rfl) pa_nil)))) (pss_one (ps_expr (pe_bm PySem.F.plainAttrs_list PySem.F.slot_list_append PySem.F.type_list_append mt_append (pv 1) (pa_cons (pv 3) pa_nil)))) (pss_one (ps_if (pt_cmpR op_eq (pe_callB call_len_seq (by rfl) T.b_len (by decide +kernel) (pa_cons (pv 3) pa_nil)) pe_int (nomark _)) (pss_one (ps_expr (pe_bm PySem.F.plainAttrs_list PySem.F.slot_list_append PySem.F.type_list_append mt_append (pv 1) (pa_cons (pe_ix ix_tup (pv 3) pe_int (fun _ _ => rfl)) pa_nil)))) (pss_cons (ps_expr (pe_bm PySem.F.plainAttrs_list PySem.F.slot_list_append PySem.F.type_list_append mt_append (pv 1) (pa_cons (pe_op op_add_str (pe_ix ix_tup (pv 3) pe_int (fun _ _ => rfl)) pe_str) pa_nil)))
      (pss_cons (ps_expr (pe_bm PySem.F.plainAttrs_list PySem.F.slot_list_append PySem.F.type_list_append mt_append (pv 2) (pa_cons pe_str pa_nil)))
      (pss_cons (ps_for PassesOwn.never rfl (pi_tup (pe_back (pv 3))) (pg_name (i := 4) nd rfl (.inl rfl)) (pss_cons (ps_expr (pe_bm PySem.F.plainAttrs_list PySem.F.slot_list_append PySem.F.type_list_append mt_append (pv 2) (pa_cons (pv 4) pa_nil)))
      (pss_one (ps_expr (pe_bm PySem.F.plainAttrs_list PySem.F.slot_list_append PySem.F.type_list_append mt_append (pv 2) (pa_cons pe_str pa_nil))))))
      (pss_one (ps_expr (pe_bm PySem.F.plainAttrs_list PySem.F.slot_list_append PySem.F.type_list_append mt_append (pv 2) (pa_cons (pe_ix ix_tup (pv 3) pe_int (fun _ _ => rfl)) pa_nil)))))))))))))
      (pss_one (ps_ret (pe_bm PySem.F.plainAttrs_str PySem.F.slot_str_join PySem.F.type_str_join mt_join pe_str (pa_cons (pv 1) pa_nil))))))), ?_⟩
    refine ⟨Nat.zero_le _, fun wl nwl => ?_⟩
    have s1 := same_put (o := .lst []) nwl
    refine ⟨_, rfl, (by show 1 ≤ sizeLine; decide), fun pl npl => ?_⟩
    have npl0 : H pl = none := by
      cases e : H pl with
      | none => rfl
      | some o =>
        rw [s1 _ _ e] at npl
        cases npl
    have nwp : wl ≠ pl := ne_of_none upd_same npl
    have big : ∀ {n : Nat}, n ≤ 200000 → n < sizeLine := fun h => Nat.lt_of_le_of_lt h (by decide)
    refine ⟨fun m σ H2 => (∃ y3 y4, σ = [some x, some (.ref wl), some (.ref pl), y3, y4]) ∧ ∃ (us : List V) (st : List PyData) (ws : List Str), m = wts st ∧ H2 pl = some (.lst us) ∧ H2 wl = some (.lst (ws.map V.str)) ∧ Same H H2 ∧ DxAll K H us st ∧ (∀ e, e ∈ st → okI e) ∧ ws.length + wts st ≤ wt d ∧ catS ws ++ rxs st = tx d,
      ⟨wts [d], ⟨none, none, rfl⟩, [x], [d], [], rfl, upd_same, ?_, s1.trans (same_put npl), .cons hx .nil, fun e he => ?_, ?_, ?_⟩, ?_⟩
    · rw [upd_ne nwp, upd_same]
      rfl
    · rw [List.mem_singleton.mp he]
      exact .inl hf
    · show 0 + wts [d] ≤ wt d
      simp [wts]
    · cases d with
      | str y => cases hf
      | _ => simp [catS, rxs, rx]
    rintro m σ H2 ⟨⟨y3, y4, rfl⟩, us, st, ws, rfl, ep, ew, sm, dx, ok, bd, tot⟩
    refine ⟨_, rfl, _, .inl ⟨us, .inl (.inl ep), rfl⟩, ?_⟩
    rcases snoc_or st with rfl | ⟨st, e, rfl⟩
    · cases dx
      refine iteF ⟨rfl, _, rfl, "", wl, ws, rfl, rfl, .inl (.inl (.inl ew)), ?_, ?_⟩
      · have e1 : (ws.map (·.length)).sum = (catS ws).length := by
          clear ew bd tot
          induction ws with
          | nil => rfl
          | cons a ws ih =>
            rw [List.map_cons, List.sum_cons, ih]
            show _ = (a.cps.toList ++ catS ws).length
            rw [List.length_append, Array.length_toList]
            rfl
        have e2 : catS ws = tx d := by
          rw [← tot]
          simp [rxs]
        rw [e1, e2]
        show _ + ws.length * 0 ≤ _
        omega
      · rw [join_none]
        have e2 : catS ws = tx d := by
          rw [← tot]
          simp [rxs]
        rw [e2]
        exact q H2 sm
    obtain ⟨us, v, rfl, dx', hv⟩ := snocDx dx
    have ne : (!(us ++ [v]).isEmpty) = true := by cases us <;> rfl
    rw [ne]
    rw [wts_snoc] at bd
    rw [rxs_snoc] at tot
    have oke := ok e (by simp)
    have ok' : ∀ e, e ∈ st → okI e := fun a ha => ok a (by simp [ha])
    have wpos := wt_pos e
    have lus := dx'.length
    have lst' : st.length ≤ wts st := wts_len st
    refine iteT ⟨fun σ' H' => ∃ m', m' < wts (st ++ [e]) ∧ _, fun _ _ h => h, ?_⟩
    refine ⟨_, rfl, .inl ⟨rfl, _, .inl (.inl ep)⟩, pl, _, v, rfl, rfl, ep, by simp, ?_⟩
    rw [List.dropLast_concat]
    have sm3 : Same H (upd H2 pl (.lst us)) := fun c o hc => by
      rw [upd_ne (ne_of_none hc npl0)]
      exact sm c o hc
    have ew3 : (upd H2 pl (.lst us)) wl = some (.lst (ws.map V.str)) := by
      rw [upd_ne nwp]
      exact ew
    have ep3 : (upd H2 pl (.lst us)) pl = some (.lst us) := upd_same
    generalize upd H2 pl (.lst us) = H3 at sm3 ew3 ep3 ⊢
    refine ⟨_, rfl, v, .ty "str", _, _, _, rfl, .ty _, (hv.up sm3).ty, kit_ty (kit_str e), _, rfl, ?_⟩
    have lws : ws.length ≤ 100000 := by omega
    have lst3 : us.length ≤ 100000 := by omega
    rcases oke with fe | ⟨y, rfl⟩
    · -- a term
      obtain ⟨nm, es, rfl, l3, hnm, hfa⟩ := formed_shape fe
      cases hv with
      | @tup b xs _ hb hs =>
      cases hs with
      | @cons v0 vs0 _ _ h0 hws =>
      cases h0
      have lw := hws.length
      have hb3 := sm3 _ _ hb
      have hn8 : nm.length ≤ 8 := by
        simp only [isNm, Bool.and_eq_true, decide_eq_true_eq] at hnm
        exact hnm.1.2
      refine iteF ⟨_, rfl, b, _, rfl, .inr (SqT.of hb3), rfl, _, rfl, ite2 (fun e1 => ?_) (fun e1 => ?_)⟩
      · -- of a name alone
        have n0 : es = [] := by
          have z := V.int.inj (of_decide_eq_true e1)
          refine List.eq_nil_of_length_eq_zero ?_
          rw [List.length_cons] at z
          omega
        subst n0
        refine ⟨_, rfl, .inl ⟨rfl, _, .inl (.inl ew3)⟩, _, rfl, b, _, 0, .str nm, rfl, rfl, SqT.of hb3, atI_nat (j := 0) rfl, wl, _, .str nm, rfl, rfl, ew3, big (by rw [List.length_map]; omega), ?_⟩
        refine ⟨wts st, by rw [wts_snoc]; omega, ⟨_, _, rfl⟩, us, st, ws ++ [nm], rfl, by rw [upd_ne nwp.symm]; exact ep3, by rw [upd_same, List.map_append]; rfl, fun c o hc => ?_, dx', ok', by rw [List.length_append]; simp only [List.length_singleton]; omega, ?_⟩
        · rw [upd_ne (ne_of_none hc nwl)]
          exact sm3 c o hc
        · rw [catS_snoc, ← tot]
          simp [rx, tx, nmC, txA]
      · -- with others
        cases hws with
        | nil => exact absurd rfl e1
        | @cons v1 vr e1d rest hv1 hrest =>
        have lr := hrest.length
        have hfa2 : formedD e1d = true ∧ formedAll rest = true := by simpa [formedAll] using hfa
        have lrest : rest.length ≤ 2 := by
          rw [List.length_cons] at l3
          omega
        have wte : wt (.tuple (.str nm :: e1d :: rest)) = wt e1d + 1 + wtA rest + 4 := by
          simp only [wt, wtA]
          omega
        rw [wte] at bd
        have wp1 := wt_pos e1d
        refine ⟨_, rfl, .inl ⟨rfl, _, .inl (.inl ew3)⟩, _, rfl, b, _, 0, .str nm, rfl, rfl, SqT.of hb3, atI_nat (j := 0) rfl, nm, "(", rfl, rfl, Nat.le_of_lt (small1000 (by show nm.length + 1 ≤ 1000; omega)), wl, _, _, rfl, rfl, ew3, big (by rw [List.length_map]; omega), ?_⟩
        have sm4 : Same H (upd H3 wl (.lst (ws.map V.str ++ [.str (nm ++ "(")]))) := fun c o hc => by
          rw [upd_ne (ne_of_none hc nwl)]
          exact sm3 c o hc
        have ep4 : (upd H3 wl (.lst (ws.map V.str ++ [.str (nm ++ "(")]))) pl = some (.lst us) := by
          rw [upd_ne nwp.symm]
          exact ep3
        have ew4 : (upd H3 wl (.lst (ws.map V.str ++ [.str (nm ++ "(")]))) wl = some (.lst ((ws ++ [nm ++ "("]).map V.str)) := by
          rw [upd_same, List.map_append]
          rfl
        generalize upd H3 wl (.lst (ws.map V.str ++ [.str (nm ++ "(")])) = H4 at sm4 ep4 ew4 ⊢
        refine ⟨_, rfl, .inl ⟨rfl, _, .inl (.inl ep4)⟩, pl, us, .str ")", rfl, rfl, ep4, big (by omega), ?_⟩
        have put : ∀ {G : Hp} {xs : List V}, Same H G → G wl = some (.lst ((ws ++ [nm ++ "("]).map V.str)) → Same H (upd G pl (.lst xs)) ∧ (upd G pl (.lst xs)) wl = some (.lst ((ws ++ [nm ++ "("]).map V.str)) := fun sG eG => ⟨fun c o hc => by
            rw [upd_ne (ne_of_none hc npl0)]
            exact sG c o hc, by
            rw [upd_ne nwp]
            exact eG⟩
        obtain ⟨sm5, ew5⟩ := put (xs := us ++ [.str ")"]) sm4 ew4
        have ep5 : (upd H4 pl (.lst (us ++ [.str ")"]))) pl = some (.lst (us ++ [.str ")"])) := upd_same
        generalize upd H4 pl (.lst (us ++ [.str ")"])) = H5 at sm5 ep5 ew5 ⊢
        have hb5 := sm5 _ _ hb
        have lvr : (V.str nm :: v1 :: vr).length ≤ 4 := by
          rw [List.length_cons, List.length_cons]
          omega
        refine ⟨_, rfl, b, _, rfl, SqT.of hb5, by rw [List.length_cons, List.length_cons]; omega, lvr, fun u nu => ⟨u, rfl, ⟨_, SqT.of upd_same⟩, ?_⟩⟩
        have su := same_put (o := .tup ((V.str nm :: v1 :: vr).drop 2).reverse) nu
        have npu : pl ≠ u := ne_of_none ep5 nu
        refine for_tup (K := K) (a := u) (xs := ((V.str nm :: v1 :: vr).drop 2).reverse) (fun i σ H6 => (∃ y5, σ = [some x, some (.ref wl), some (.ref pl), some (.ref b), y5]) ∧ Same H H6 ∧ H6 wl = some (.lst ((ws ++ [nm ++ "("]).map V.str)) ∧ H6 u = some (.tup ((V.str nm :: v1 :: vr).drop 2).reverse) ∧ ∃ (ys : List V), H6 pl = some (.lst (us ++ [.str ")"] ++ ys)) ∧ DxAll K H ys (commas (rest.drop (rest.length - i))))
          ⟨⟨_, rfl⟩, sm5.trans su, su _ _ ew5, upd_same, [], by rw [List.append_nil]; exact su _ _ ep5, by simp [commas]; exact .nil⟩ (fun i σ H6 _ h => SqT.of h.2.2.2.1) ?_ ?_
        · rintro i y σ H6 hi ⟨⟨y5, rfl⟩, s6, ew6, eu6, ys, ep6, dys⟩
          obtain ⟨lti, hi⟩ := rev_at hi
          have lvv : ((V.str nm :: v1 :: vr).drop 2).length = rest.length := lr
          rw [lvv] at lti hi
          have hi : vr[rest.length - 1 - i]? = some y := hi
          have lt : rest.length - 1 - i < rest.length := by omega
          have gd := List.getElem?_eq_getElem lt
          obtain ⟨v2, hv2, dv2⟩ := hrest.get gd
          rw [hi] at hv2
          cases hv2
          have ed : rest.drop (rest.length - (i + 1)) = rest[rest.length - 1 - i] :: rest.drop (rest.length - i) := by
            rw [show rest.length - (i + 1) = rest.length - 1 - i by omega, drop_at gd, show rest.length - 1 - i + 1 = rest.length - i by omega]
          have lys := dys.length
          rw [commas_len, List.length_drop] at lys
          have lbig : (us ++ [V.str ")"] ++ ys).length ≤ 100010 := by
            rw [List.length_append, List.length_append, List.length_singleton]
            omega
          refine ⟨_, rfl, .inl ⟨rfl, _, .inl (.inl ep6)⟩, _, rfl, pl, _, y, rfl, rfl, ep6, big (by omega), ?_⟩
          obtain ⟨s7, ew7⟩ := put (xs := us ++ [.str ")"] ++ ys ++ [y]) s6 ew6
          have eu7 : (upd H6 pl (.lst (us ++ [.str ")"] ++ ys ++ [y]))) u = some (.tup ((V.str nm :: v1 :: vr).drop 2).reverse) := by
            rw [upd_ne npu.symm]
            exact eu6
          refine ⟨_, rfl, .inl ⟨rfl, _, .inl (.inl upd_same)⟩, pl, _, .str ",", rfl, rfl, upd_same, big (by rw [List.length_append, List.length_singleton]; omega), ?_⟩
          obtain ⟨s8, ew8⟩ := put (xs := us ++ [.str ")"] ++ ys ++ [y] ++ [.str ","]) s7 ew7
          refine ⟨⟨_, rfl⟩, s8, ew8, ?_, ys ++ [y, .str ","], ?_, ?_⟩
          · rw [upd_ne npu.symm]
            exact eu7
          · rw [upd_same]
            simp
          · rw [ed, commas]
            exact DxAll.append dys (.cons dv2 (.cons (.str _) .nil))
        · rintro σ H6 ⟨⟨y5, rfl⟩, s6, ew6, eu6, ys, ep6, dys⟩
          have lvv : ((V.str nm :: v1 :: vr).drop 2).reverse.length = rest.length := by
            rw [List.length_reverse]
            exact lr
          rw [lvv, Nat.sub_self, List.drop_zero] at dys
          have lys := dys.length
          rw [commas_len] at lys
          have hb6 := s6 _ _ hb
          have lbig : (us ++ [V.str ")"] ++ ys).length ≤ 100010 := by
            rw [List.length_append, List.length_append, List.length_singleton]
            omega
          refine ⟨_, rfl, .inl ⟨rfl, _, .inl (.inl ep6)⟩, _, rfl, b, _, 1, v1, rfl, rfl, SqT.of hb6, atI_nat (j := 1) rfl, pl, _, v1, rfl, rfl, ep6, big (by omega), ?_⟩
          obtain ⟨s7, ew7⟩ := put (xs := us ++ [.str ")"] ++ ys ++ [v1]) s6 ew6
          have wc := wts_commas rest
          refine ⟨wts (st ++ [.str ")"] ++ commas rest ++ [e1d]), ?_, ⟨_, _, rfl⟩, us ++ [.str ")"] ++ ys ++ [v1], st ++ [.str ")"] ++ commas rest ++ [e1d], ws ++ [nm ++ "("], rfl, upd_same, ew7, s7, ?_, fun e he => ?_, ?_, ?_⟩
          · rw [wts_snoc, wts_snoc, wts_app, wts_snoc, wc, wte]
            show wts st + 1 + wtA rest + wt e1d < _
            omega
          · exact DxAll.append (DxAll.append (DxAll.append dx' (.cons (.str _) .nil)) dys) (.cons hv1 .nil)
          · rcases List.mem_append.mp he with he | he
            · rcases List.mem_append.mp he with he | he
              · rcases List.mem_append.mp he with he | he
                · exact ok' e he
                · rw [List.mem_singleton.mp he]
                  exact .inr ⟨_, rfl⟩
              · exact commas_ok hfa2.2 e he
            · rw [List.mem_singleton.mp he]
              exact .inl hfa2.1
          · rw [wts_snoc, wts_app, wts_snoc, wc, List.length_append, List.length_singleton]
            show _ + 1 + (wts st + 1 + wtA rest + wt e1d) ≤ _
            omega
          · have e2 : rx e1d = tx e1d := by
              cases e1d with
              | str y => cases hfa2.1
              | _ => rfl
            rw [rxs_snoc, rxs_commas _ _ hfa2.2, rxs_snoc, catS_snoc, ← tot, str_app, e2]
            show catS ws ++ (nm.cps.toList ++ [40]) ++ (tx e1d ++ (txM rest ++ ([41] ++ rxs st))) = catS ws ++ ((nm.cps.toList ++ 40 :: (tx e1d ++ (txM rest ++ [41]))) ++ rxs st)
            simp
    · -- a sign
      refine iteT ?_
      cases hv
      refine ⟨_, rfl, .inl ⟨rfl, _, .inl (.inl ew3)⟩, _, rfl, wl, _, .str y, rfl, rfl, ew3, big (by rw [List.length_map]; omega), ?_⟩
      refine ⟨wts st, by rw [wts_snoc]; omega, ⟨_, _, rfl⟩, us, st, ws ++ [y], rfl, by rw [upd_ne nwp.symm]; exact ep3, by rw [upd_same, List.map_append]; rfl, fun c o hc => ?_, dx', ok', by rw [List.length_append]; simp only [List.length_singleton]; omega, ?_⟩
      · rw [upd_ne (ne_of_none hc nwl)]
        exact sm3 c o hc
      · rw [catS_snoc, ← tot]
        simp [rx]
end
end K11
/-! Terms from left to right: all parts, and what is made of them from the right. -/
namespace K11
open PySem PySem.Spec PyProof.Rows L2 Kx
mutual
/-- all parts of a datum, itself first -/
def preD : PyData → List PyData
  | .tuple (x :: ds) => .tuple (x :: ds) :: preAll ds
  | d => [d]
def preAll : List PyData → List PyData
  | [] => []
  | d :: ds => preD d ++ preAll ds
end
theorem preAll_app : ∀ (l m : List PyData), preAll (l ++ m) = preAll l ++ preAll m
  | [], m => by simp [preAll]
  | d :: l, m => by simp [preAll, preAll_app l m]
def kidsD : PyData → List PyData
  | .tuple (_ :: ds) => ds
  | _ => []
theorem preD_eq {d : PyData} (h : formedD d = true) : preD d = d :: preAll (kidsD d) := by
  obtain ⟨x, ds, rfl, _⟩ := formed_shape h
  simp [preD, kidsD]
/-- one turn of a stack of data, the next one first -/
def turn : List PyData → List PyData
  | [] => []
  | d :: st => kidsD d ++ st
def stk (st : List PyData) : Nat → List PyData
  | 0 => st
  | k + 1 => turn (stk st k)
theorem kids_formed {d : PyData} (h : formedD d = true) : formedAll (kidsD d) = true := by
  obtain ⟨x, ds, rfl, _, _, h⟩ := formed_shape h
  exact h
theorem turn_formed {st : List PyData} (h : formedAll st = true) : formedAll (turn st) = true := by
  cases st with
  | nil => rfl
  | cons d st =>
    rw [formedAll, Bool.and_eq_true] at h
    rw [turn, formedAll_append, kids_formed h.1, h.2]
    rfl
theorem stk_formed {st : List PyData} (h : formedAll st = true) : ∀ k, formedAll (stk st k) = true
  | 0 => h
  | k + 1 => turn_formed (stk_formed h k)
theorem stk_drop {st : List PyData} (h : formedAll st = true) : ∀ k, preAll (stk st k) = (preAll st).drop k
  | 0 => by simp [stk]
  | k + 1 => by
    have e := stk_drop h k
    have f := stk_formed h k
    have e2 : (preAll st).drop (k + 1) = ((preAll st).drop k).tail := by rw [List.tail_drop]
    rw [stk, e2, ← e]
    cases es : stk st k with
    | nil => simp [turn, preAll]
    | cons d r =>
      rw [es, formedAll, Bool.and_eq_true] at f
      rw [turn, preAll, preD_eq f.1, preAll_app]
      rfl
/-- the stack at place k: what stands there comes first -/
theorem stk_at {st : List PyData} (h : formedAll st = true) {k : Nat} {d : PyData} (e : (preAll st)[k]? = some d) : ∃ r, stk st k = d :: r ∧ formedD d = true ∧ formedAll r = true ∧ stk st (k + 1) = kidsD d ++ r := by
  have e1 := stk_drop h k
  have f := stk_formed h k
  have e3 : ((preAll st).drop k)[0]? = some d := by rw [List.getElem?_drop]; exact e
  cases es : stk st k with
  | nil =>
    rw [es, preAll] at e1
    rw [← e1] at e3
    cases e3
  | cons c r =>
    rw [es, formedAll, Bool.and_eq_true] at f
    rw [es, preAll, preD_eq f.1] at e1
    rw [← e1] at e3
    simp at e3
    subst e3
    exact ⟨r, rfl, f.1, f.2, by rw [stk, es, turn]⟩
theorem pre_nil {st : List PyData} (h : formedAll st = true) (e : preAll st = []) : st = [] := by
  cases st with
  | nil => rfl
  | cons d r =>
    rw [formedAll, Bool.and_eq_true] at h
    rw [preAll, preD_eq h.1] at e
    cases e
theorem stk_end {st : List PyData} (h : formedAll st = true) {k : Nat} (e : (preAll st).length ≤ k) : stk st k = [] := by
  refine pre_nil (stk_formed h k) ?_
  rw [stk_drop h k]
  exact List.drop_eq_nil_of_le e
theorem stk_first {d : PyData} {st : List PyData} (hd : formedD d = true) (h : formedAll st = true) : stk (d :: st) (preD d).length = st := by
  have key : ∀ (n : Nat) (l : List PyData), (preAll l).length = n → formedAll l = true → ∀ st, stk (l ++ st) n = st := by
    intro n
    induction n with
    | zero =>
      intro l e f st
      have := pre_nil f (List.length_eq_zero_iff.mp e)
      rw [this]
      rfl
    | succ n ih =>
      intro l e f st
      cases l with
      | nil => cases e
      | cons c l =>
        rw [formedAll, Bool.and_eq_true] at f
        rw [preAll, preD_eq f.1] at e
        have e2 : (preAll (kidsD c ++ l)).length = n := by
          rw [preAll_app]
          simpa using e
        have sh : ∀ (m : Nat) (s : List PyData), stk s (m + 1) = stk (turn s) m := by
          intro m
          induction m with
          | zero => intro s; rfl
          | succ m ihm => intro s; rw [stk, ihm s, stk]
        rw [sh, List.cons_append, turn, ← List.append_assoc]
        exact ih (kidsD c ++ l) e2 (by rw [formedAll_append, kids_formed f.1, f.2]; rfl) st
  have := key (preAll [d]).length [d] rfl (by rw [formedAll, hd]; rfl) st
  rw [preAll, preAll, List.append_nil] at this
  exact this
theorem pre_rows : ∀ (d : PyData), formedD d = true → (preD d).length = (rowsD d).length
  | .tuple (x :: ds), h => by
    rw [formedD, Bool.and_eq_true] at h
    rw [preD, rowsD, List.length_cons, List.length_cons, pre_rowsAll ds h.2]
  | .tuple [], h => by cases h
  | .none, h => by cases h
  | .bool _, h => by cases h
  | .int _, h => by cases h
  | .str _, h => by cases h
  | .list _, h => by cases h
  | .dict _, h => by cases h
where pre_rowsAll : ∀ (ds : List PyData), formedAll ds = true → (preAll ds).length = (rowsAll ds).length
  | [], _ => rfl
  | d :: ds, h => by
    rw [formedAll, Bool.and_eq_true] at h
    rw [preAll, rowsAll, List.length_append, List.length_append, pre_rows d h.1, pre_rowsAll ds h.2]
end K11
/-! t[:0:-1] of a tuple of one to four. -/
namespace Kx
open PySem PySem.Spec PyProof.Rows L2 HT
section
variable {prog : Program} {w : World} {A : Around} {E : Value → Shared → Prop} {s : Shared}
theorem back0_adjust {n : Nat} (h : 1 ≤ n) : Builtin.Slice.sliceAdjust none (some 0) (-1) (n : Int) = ((n : Int) - 1, 0) := by
  have neg : (-1 : Int) < 0 := by decide
  unfold Builtin.Slice.sliceAdjust
  simp only [neg, if_true]
  refine Prod.ext ?_ ?_
  · rfl
  · have no : ¬ ((0 : Int) < 0) := by decide
    simp only [no, if_false]
    omega
theorem back0_places {n : Nat} (h : 1 ≤ n) : Builtin.Slice.slicePlaces ((n : Int) - 1) 0 (-1) = n - 1 := by
  unfold Builtin.Slice.slicePlaces
  have no : ¬ ((-1 : Int) > 0) := by decide
  simp only [no, if_false]
  rw [show -(-1 : Int) = 1 from rfl, Int.ediv_one]
  split <;> omega
theorem back0_pick : ∀ {xs : List Value}, 1 ≤ xs.length → xs.length ≤ 4 → ((List.range (xs.length - 1)).filterMap fun (m : Nat) => xs.toArray[((xs.length : Int) - 1 + (m : Int) * -1).toNat]?) = (xs.drop 1).reverse
  | [a], _, _ => rfl
  | [a, b], _, _ => rfl
  | [a, b, c], _, _ => rfl
  | [a, b, c, d], _, _ => rfl
  | [], h, _ => by simp at h
  | _ :: _ :: _ :: _ :: _ :: _, _, h => by simp at h
theorem back0_applied {sl : Addr} {vl vu vs : Value} {n : Nat} {Q : Int × Int × Nat → Shared → Prop} (hn : 1 ≤ n) (hs : s.heap.IsSliceOf sl vl vu vs) (pl : IsPart vl none) (pu : IsPart vu (some 0)) (ps : IsPart vs (some (-1)))
    (h : Q ((n : Int) - 1, -1, n - 1) s) : wpAny (model prog w) A (Builtin.Slice.sliceApplied (.ref sl) (pure (n : Int))) Q E s := by
  obtain ⟨ob, h1, h2, h3⟩ := id hs
  unfold Builtin.Slice.sliceApplied Builtin.Slice.sliceFields
  refine wpAny_bind (wpAny_bind (wpAny_field h1 h3 (x := vl) rfl (wpAny_bind (wpAny_field h1 h3 (x := vu) rfl (wpAny_bind (wpAny_field h1 h3 (x := vs) rfl (wpAny_pure ?_)))))))
  refine wpAny_bind (slicePart_ ps ?_)
  show wpAny _ _ (if ((-1 : Int) == 0) = true then _ else _) _ _ s
  rw [if_neg (by decide)]
  refine wpAny_bind (slicePart_ pl (wpAny_bind (slicePart_ pu (wpAny_bind (wpAny_pure ?_)))))
  show wpAny _ _ (match Builtin.Slice.sliceAdjust none (some 0) (-1) (n : Int) with | (lo, hi) => pure (lo, (-1 : Int), Builtin.Slice.slicePlaces lo hi (-1))) _ _ s
  rw [back0_adjust hn]
  show wpAny _ _ (pure ((n : Int) - 1, (-1 : Int), Builtin.Slice.slicePlaces ((n : Int) - 1) 0 (-1))) _ _ s
  rw [back0_places hn]
  exact wpAny_pure h
theorem getItem_back0 {t sl : Addr} {xs : List Value} {vl vu vs : Value} {Q : Value → Shared → Prop} (ht : IsTup s.heap t xs.toArray) (h2 : 1 ≤ xs.length) (h4 : xs.length ≤ 4) (hs : s.heap.IsSliceOf sl vl vu vs) (pl : IsPart vl none) (pu : IsPart vu (some 0)) (ps : IsPart vs (some (-1)))
    (h : Q (.ref s.heap.objs.size) { s with heap := s.heap.push { cls := .type "tuple", data := .seq (xs.drop 1).reverse.toArray } }) : wpAny (model prog w) A (getItem (.ref t) (.ref sl)) Q E s := by
  have few : sizeOk (.seq (xs.drop 1).reverse.toArray) := by
    show (xs.drop 1).reverse.toArray.size ≤ sizeLine
    rw [List.size_toArray, List.length_reverse, List.length_drop]
    exact Nat.le_trans (show xs.length - 1 ≤ 4 by omega) (by decide)
  obtain ⟨ob, ho, hc, hd⟩ := id hs
  have isS : s.TypeIs (.ref sl) "slice" := ⟨ob, ho, hc⟩
  unfold getItem
  try with_reducible refine wpAny_holding ?_
  first | refine wpAny_bind (wpAny_pure ?_) | skip
  refine wpAny_bind (wpAny_sequenceKey ht.typeIs (by decide) ?_)
  refine wpAny_bind (wpAny_callSpecial?_slot (name := Str.ofString "__getitem__") ht.typeIs PyProof.Rows.slot_tuple_getitem
    (wpAny_call_entry PyProof.Rows.slot_tuple_getitem ht.typeIs entry_tuple_getitem ?_ (args_tuple_getitem _ _)))
  show wpAny _ _ (Builtin.Tuple.tupleItemsOf (.ref t) >>= _) _ _ s
  refine wpAny_bind (tupleItemsOf_ ht ?_)
  refine wpAny_bind (wpAny_typeOf isS ?_)
  rw [if_pos (by decide)]
  have sz : xs.toArray.size = xs.length := List.size_toArray ..
  refine wpAny_bind (back0_applied (n := xs.toArray.size) (by rw [sz]; exact h2) hs pl pu ps ?_)
  rw [sz]
  have no : ¬ ((((xs.length : Int) - 1) == 0 && (-1 : Int) == 1 && (xs.length - 1) == xs.length) = true) := by simp
  show wpAny _ _ (if (((xs.length : Int) - 1) == 0 && (-1 : Int) == 1 && (xs.length - 1) == xs.length) = true then _ else _) _ _ s
  rw [if_neg no, back0_pick h2 h4]
  first
    | exact wpAny_bind (m := Builtin.Tuple.tupleExact _) (wpAny_newObj_type (wpAny_pure ⟨_, rfl, wpAny_pure h⟩) few)
    | exact wpAny_bind (m := Builtin.Tuple.tupleExact _) (wpAny_newObj_type (wpAny_bind (wpAny_pure (wpAny_pure ⟨_, rfl, wpAny_pure h⟩))) few)
    | exact wpAny_bind (wpAny_bind (m := Builtin.Tuple.tupleExact _) (wpAny_newObj_type (wpAny_pure (wpAny_pure ⟨_, rfl, wpAny_pure h⟩)) few))
    | exact wpAny_bind (wpAny_bind (m := Builtin.Tuple.tupleExact _) (wpAny_newObj_type (wpAny_pure ⟨_, rfl, wpAny_pure h⟩) few))
end
/-- t[:0:-1], t of one to four: what stands behind the first, from the end -/
def tBack0 (K : PySem.W.Frag) (te : TE) : TE := fun σ H Q => te σ H fun x H1 => ∃ a xs, x = .ref a ∧ SqT K H1 a xs ∧ 1 ≤ xs.length ∧ xs.length ≤ 4 ∧ ∀ p, H1 p = none → Q (.ref p) (upd H1 p (.tup (xs.drop 1).reverse))
section
variable {X : Cx}
theorem pe_back0 {e : Expr} {te : TE} {k k2 : Nat} {p1 p2 p3 p4 pos : Pos} (he : PE X e te) : PE X (.Subscript e (.Slice none (some (.Constant (.int 0) k2 p4)) (some (.UnaryOp .USub (.Constant (.int 1) k p1) p2)) p3) pos) (tBack0 X.K te) := by
  refine ⟨fun pins s σ H Q I h => ?_⟩
  refine Subscript_ (thn (he.run pins s σ H _ I h) fun v s1 ⟨x, H1, I1, r1, q1⟩ => ?_)
  obtain ⟨a, xs, ex, hx, l2, l4, q⟩ := q1
  subst ex
  cases r1
  have hlo : PO X (some (.Constant (.int 0) k2 p4)) (tPart (tC (.int 0))) := po_some pe_int
  have hst : PO X (some (.UnaryOp .USub (.Constant (.int 1) k p1) p2)) (tPart (tUn (rU fun i => .int (-i)) (tC (.int 1)))) := po_some (pe_un un_neg pe_int)
  refine wpAny_Slice (thn (po_none.run pins s1 σ H1 (fun o G => o = none ∧ G = H1) I1 ⟨rfl, rfl⟩) fun vl s2 ⟨l, H2, I2, pl, el, e2⟩ => ?_)
  subst el e2
  refine thn (hlo.run pins s2 σ H2 (fun o G => o = some 0 ∧ G = H2) I2 ⟨0, rfl, rfl, rfl⟩) fun vu s3 ⟨u, H3, I3, pu, eu, e3⟩ => ?_
  subst eu e3
  refine thn (hst.run pins s3 σ H3 (fun o G => o = some (-1) ∧ G = H3) I3 ⟨1, rfl, -1, rfl, rfl, rfl⟩) fun vs s4 ⟨o, H4, I4, ps, eo, e4⟩ => ?_
  subst eo e4
  have I5 : Inv X pins σ H4 { s4 with heap := s4.heap.push { cls := .type "slice", data := .fields #[vl, vu, vs] } } := I4.kept (t' := s4.toks) fun b ob q => Heap.get?_push_of_some _ q
  obtain ⟨its, r, ht, hz⟩ := I5.tuple hx
  have hlen := r.length
  show wpAny (model X.prog X.w) X.A (subscriptTail e (.Slice none (some (.Constant (.int 0) k2 p4)) (some (.UnaryOp .USub (.Constant (.int 1) k p1) p2)) p3) (.ref a) (.ref s4.heap.objs.size)) (EP X pins σ Q) X.xe { s4 with heap := s4.heap.push { cls := .type "slice", data := .fields #[vl, vu, vs] } }
  refine tail_any (ops := [.ref a, .ref s4.heap.objs.size]) ht.typeIs (PyProof.Rows.slot_tuple_getitem.lookup) ?_ (by with_unfolding_all rfl)
  refine getItem_back0 ht (by omega) (by omega) (Heap.IsSliceOf.new _ vl vu vs) pl pu ps ?_
  refine ⟨.ref _, _, I5.laid (t' := s4.toks) (o := .tup (xs.drop 1).reverse) (fun b ob q => Heap.get?_push_of_some _ q) (Nat.le_refl _) ?_, rfl, q _ (I5.hok.fresh (Nat.le_refl _))⟩
  exact ⟨by rw [List.length_reverse, List.length_drop]; omega, _, (r.drop 1).reverse, IsTup.new _ _⟩
end
end Kx
/-! preorder. -/
namespace K11
open PySem PySem.Spec PyProof.Rows L2 Kx
theorem dxr {K : PySem.W.Frag} {H : Hp} : ∀ {vs : List V} {ds : List PyData}, DxAll K H vs ds → DxAll K H vs.reverse ds.reverse
  | _, _, .nil => .nil
  | _, _, .cons a t => by
    rw [List.reverse_cons, List.reverse_cons]
    exact DxAll.append (dxr t) (.cons a .nil)
theorem pre_pos {d : PyData} : 0 < (preD d).length := by
  cases d with
  | tuple ds => cases ds <;> simp [preD]
  | _ => simp [preD]
theorem len_pre : ∀ l : List PyData, l.length ≤ (preAll l).length
  | [] => Nat.le_refl _
  | d :: l => by
    have := len_pre l
    have := pre_pos (d := d)
    rw [preAll, List.length_append, List.length_cons]
    omega
theorem big5 {n : Nat} (h : n ≤ 200000) : n < sizeLine := Nat.lt_of_le_of_lt h (by decide)
section
variable {P : Program} {w : World} {K : PySem.W.Frag} {mg : Str → Option Value} {base : Heap}
def spPre (K : PySem.W.Frag) : Sp := fun vs H Q _ => ∃ (a : Addr) (ws : List V) (st : List PyData) (H0 : Hp), vs = [.ref a] ∧ SqL K H a ws ∧ Same H0 H ∧ DxAll K H0 ws st ∧ formedAll st = true ∧ (preAll st).length ≤ 100000 ∧
  ∀ p H' us, Same H H' → H p = none → H' p = some (.lst us) → DxAll K H0 us (preAll st) → Q (.ref p) H'
theorem ok_pre (T : Tx K mg) : FnOk P w K mg base CX0 1 T.apreorder T.dpreorder ["terms"] (spPre K) := by
  have nd := sc_preorder.nd
  refine T.fpreorder.ok sc_preorder (fun vs H Q E h => ?_) (fun cdv A outer s H vs Q E hr h => ?_)
  · obtain ⟨a, ws, st, H0, rfl, _⟩ := h
    rfl
  · obtain ⟨a, ws, st0, H0, rfl, ha, s0, hx, hf, bd, q⟩ := h
    refine ⟨_, (pss_cons (ps_set (i := 1) nd rfl (.inl rfl) (pe_lst pa_nil))
      (pss_cons (ps_set (i := 2) nd rfl (.inl rfl) (pe_callTy call_list_of (by rfl) T.b_list (by decide +kernel) (pa_cons (pe_revL (pv 0)) pa_nil)))
      (pss_cons (ps_while PassesOwn.never (pt_truth (pv 2) (by intro _; rfl)) (pss_cons (ps_set (i := 3) nd rfl (.inl rfl) (pe_bm0 PySem.F.plainAttrs_list PySem.F.slot_list_pop PySem.F.type_list_pop mt_pop (pv 2)))
      (pss_cons (ps_expr (pe_bm PySem.F.plainAttrs_list PySem.F.slot_list_append PySem.F.type_list_append mt_append (pv 1) (pa_cons (pv 3) pa_nil)))
      (pss_one (ps_expr (pe_bm PySem.F.plainAttrs_list PySem.F.slot_list_extend PySem.F.type_list_extend mt_extT (pv 2) (pa_cons (pe_back0 (pv 3)) pa_nil)))))))
      (pss_one (ps_ret (pv 1)))))), ?_⟩
    refine ⟨Nat.zero_le _, fun f nf => ?_⟩
    have s1 := same_put (o := .lst []) nf
    refine ⟨_, rfl, a, ws, rfl, s1.seq ha, fun r nr => ⟨r, _, rfl, .inl (.inl (.inl upd_same)), fun wl nwl => ?_⟩⟩
    have s2 := s1.trans (same_put (o := .lst ws.reverse) nr)
    have nfr : f ≠ r := ne_of_none upd_same nr
    have ef2 : (upd (upd H f (.lst [])) r (.lst ws.reverse)) f = some (.lst []) := by rw [upd_ne nfr, upd_same]
    generalize upd (upd H f (.lst [])) r (.lst ws.reverse) = H2 at s2 ef2 nwl ⊢
    have s3 := s2.trans (same_put (o := .lst ws.reverse) nwl)
    have nfw : f ≠ wl := ne_of_none ef2 nwl
    have nwl0 : H wl = none := s2.free nwl
    refine ⟨fun m σ H3 => (∃ y3, σ = [some (.ref a), some (.ref f), some (.ref wl), y3]) ∧ ∃ (us vs : List V) (done st : List PyData), m = (preAll st).length ∧ H3 f = some (.lst us) ∧ H3 wl = some (.lst vs) ∧ Same H H3 ∧ DxAll K H0 us done ∧ DxAll K H0 vs st.reverse ∧ formedAll st = true ∧ done ++ preAll st = preAll st0,
      ⟨_, ⟨none, rfl⟩, [], ws.reverse, [], st0, rfl, by rw [upd_ne nfw]; exact ef2, upd_same, s3, .nil, dxr hx, hf, rfl⟩, ?_⟩
    rintro m σ H3 ⟨⟨y3, rfl⟩, us, vs, done, st, rfl, ef, ew, sm, du, dv, fo, tot⟩
    have lt := congrArg List.length tot
    rw [List.length_append] at lt
    have ld := du.length
    refine ⟨_, rfl, _, .inl ⟨vs, .inl (.inl ew), rfl⟩, ?_⟩
    cases st with
    | nil =>
      cases dv
      refine iteF ⟨_, rfl, q f _ us sm nf ef ?_⟩
      have e : done = preAll st0 := by rw [← tot]; simp [preAll]
      rw [← e]
      exact du
    | cons d st =>
      rw [List.reverse_cons] at dv
      obtain ⟨vs, v, rfl, dv', hv⟩ := snocDx dv
      have ne : (!(vs ++ [v]).isEmpty) = true := by cases vs <;> rfl
      rw [ne]
      rw [formedAll, Bool.and_eq_true] at fo
      have ep := preD_eq fo.1
      have lv := dv'.length
      rw [List.length_reverse] at lv
      have lst := len_pre st
      have lall : (preAll (d :: st)).length = 1 + ((preAll (kidsD d)).length + (preAll st).length) := by
        rw [preAll, ep, List.length_append, List.length_cons]
        omega
      rw [lall] at lt ⊢
      refine iteT ⟨fun σ' H' => ∃ m', m' < 1 + ((preAll (kidsD d)).length + (preAll st).length) ∧ _, fun _ _ h => h, ?_⟩
      refine ⟨_, rfl, .inl ⟨rfl, _, .inl (.inl ew)⟩, wl, _, v, rfl, rfl, ew, by simp, ?_⟩
      rw [List.dropLast_concat]
      have sm4 : Same H (upd H3 wl (.lst vs)) := fun c o hc => by
        rw [upd_ne (ne_of_none hc nwl0)]
        exact sm c o hc
      have ef4 : (upd H3 wl (.lst vs)) f = some (.lst us) := by
        rw [upd_ne nfw]
        exact ef
      have ew4 : (upd H3 wl (.lst vs)) wl = some (.lst vs) := upd_same
      generalize upd H3 wl (.lst vs) = H4 at sm4 ef4 ew4 ⊢
      refine ⟨_, rfl, .inl ⟨rfl, _, .inl (.inl ef4)⟩, _, rfl, f, us, v, rfl, rfl, ef4, big5 (by omega), ?_⟩
      have sm5 : Same H (upd H4 f (.lst (us ++ [v]))) := fun c o hc => by
        rw [upd_ne (ne_of_none hc nf)]
        exact sm4 c o hc
      have ef5 : (upd H4 f (.lst (us ++ [v]))) f = some (.lst (us ++ [v])) := upd_same
      have ew5 : (upd H4 f (.lst (us ++ [v]))) wl = some (.lst vs) := by
        rw [upd_ne nfw.symm]
        exact ew4
      generalize upd H4 f (.lst (us ++ [v])) = H5 at sm5 ef5 ew5 ⊢
      obtain ⟨nm, es, rfl, l3, hnm, hfa⟩ := formed_shape fo.1
      have hv' := hv
      cases hv' with
      | @tup b xs _ hb hs =>
      cases hs with
      | @cons v0 vr _ _ h0 hws =>
      cases h0
      have lw := hws.length
      refine ⟨_, rfl, .inl ⟨rfl, _, .inl (.inl ew5)⟩, _, rfl, b, _, rfl, SqT.of (sm5 _ _ (s0 _ _ hb)), by rw [List.length_cons]; omega, by rw [List.length_cons]; omega, fun c nc => ?_⟩
      have nwc : wl ≠ c := ne_of_none ew5 nc
      have nfc : f ≠ c := ne_of_none ef5 nc
      refine ⟨wl, c, vs, vr.reverse, rfl, rfl, by rw [upd_ne nwc]; exact ew5, SqT.of upd_same, ?_, ?_⟩
      · rw [List.length_reverse]
        exact Nat.le_of_lt (big5 (by omega))
      · refine ⟨(preAll (kidsD (.tuple (.str nm :: es)) ++ st)).length, by rw [preAll_app, List.length_append]; omega, ⟨_, rfl⟩, _, vs ++ vr.reverse, done ++ [.tuple (.str nm :: es)], es ++ st, rfl, ?_, upd_same, fun d o hd => ?_, DxAll.append du (.cons hv .nil), ?_, ?_, ?_⟩
        · rw [upd_ne nfw, upd_ne nfc]
          exact ef5
        · rw [upd_ne (ne_of_none hd nwl0), upd_ne]
          · exact sm5 d o hd
          · rintro rfl
            rw [sm5 _ _ hd] at nc
            cases nc
        · rw [List.reverse_append]
          exact DxAll.append dv' (dxr hws)
        · rw [formedAll_append, hfa, fo.2]
          rfl
        · rw [← tot, preAll_app, preAll, ep, List.append_assoc]
          rfl
end
end K11
/-! d.setdefault(t, z), t a tuple of texts and ints. -/
namespace Kx
open PySem PySem.Spec PyProof.Rows L2
section
variable {X : Cx} {pins : List (Addr × Obj)} {σ : L2.St} {H : Hp} {s : Shared} {a b : Addr} {r : Value} {d : V} {k : List Key} {A : Around} {E : Value → Shared → Prop}
theorem d_setdT {kvs : List (List Key × V)} {Q : Value → Shared → Prop} (hu : A.units + 1 < cLine) (I : Inv X pins σ H s) (e : H a = some (.dT kvs)) (eb : H b = some (.tup (k.map kV))) (rd : RelV d r) (hl : kvs.length < sizeLine)
    (h1 : ∀ v, valV kvs k = some v → ∀ (w' : Value) (s' : Shared), Inv X pins σ H s' → RelV v w' → Q w' s') (h2 : valV kvs k = none → ∀ (w' : Value) (s' : Shared), Inv X pins σ (upd H a (.dT (putK kvs k d))) s' → RelV d w' → Q w' s') :
    wpAny (model X.prog X.w) A (call (.builtin "dict.setdefault") [.ref a, .ref b, r]) Q E s := by
  obtain ⟨z, hd, xs, rel, dd⟩ := dt_of I.hok e
  have hz : xs.length ≤ sizeLine := by rw [← Paired.length rel]; exact z
  have q := rel.val k
  refine call_setdefault_heap (hsz := hz) (tupleKind_room_in1 hu) (key_of I.hok eb) hd dd (fun p hp => ?_) fun hn h' dd' hs => ?_
  · rw [hp] at q
    cases q0 : valV kvs k with
    | none =>
      rw [q0] at q
      exact (show False from q).elim
    | some v0 =>
      rw [q0] at q
      exact h1 v0 q0 _ _ (I.tok _) q
  · rw [hn] at q
    cases q0 : valV kvs k with
    | some v0 =>
      rw [q0] at q
      exact (show False from q).elim
    | none =>
      have hl2 : (putK kvs k d).length ≤ sizeLine := by
        have := length_putK kvs k d
        omega
      refine h2 q0 _ _ ?_ rd
      obtain ⟨ob, es, ep, hq, g2, g3, g4, _, g5⟩ := dd'
      refine d_write I (by rw [e]; exact True.intro) hs ⟨ob, hq⟩ ⟨hl2, hd, _, (rel.put k eb rd).keeps fun c ys ec => ?_, ob, es, ep, hq, g2, g3, g4, g5⟩
      rw [upd_ne (ne_of ec e (fun z => nomatch z))]
      exact ec
end
/-- d.setdefault(y, z), y a tuple -/
def tDSetT (td ty tx : TE) : TE := fun σ H Q => td σ H fun x H1 => ∃ a, x = .ref a ∧ IsD H1 a ∧ ty σ H1 fun y H2 => tx σ H2 fun z H3 => ∃ (kvs : List (List Key × V)) (k : List Key) (b : Addr), H3 a = some (.dT kvs) ∧ y = .ref b ∧ H3 b = some (.tup (k.map kV)) ∧ kvs.length < sizeLine ∧
  (∀ v, valV kvs k = some v → Q v H3) ∧ (valV kvs k = none → Q z (upd H3 a (.dT (putK kvs k z))))
section
variable {X : Cx} {o e f : Expr} {td ty tx : TE} {apos cpos : Pos}
theorem pe_dsetT (hu : X.A.units + 1 < cLine) (ho : PE X o td) (he : PE X e ty) (hf : PE X f tx) (m : M2 X o "setdefault" apos e f cpos) : PE X (.Call (.Attribute o "setdefault" apos) [e, f] [] cpos) (tDSetT td ty tx) := by
  refine ⟨fun pins s σ H Q I h => ?_⟩
  refine wpAny_Call_method m.base m.few m.line PySem.F.plainAttrs_dict PySem.F.slot_dict_setdefault PySem.F.type_dict_setdefault (thn (ho.run pins s σ H _ I h) fun u s1 ⟨x, H1, I1, rx, a, ex, d, q1⟩ => ?_)
  subst ex
  obtain rfl : u = Value.ref a := rx
  obtain ⟨t1, t2, _⟩ := isD_at I1 d
  refine ⟨t1, t2, ?_⟩
  rw [m.trees]
  refine Calls.callWith_builtin rfl (Calls.evalArgs_plain (Calls.spliced_cons (thn (he.run pins s1 σ H1 _ I1 q1) fun iv s2 ⟨y, H2, I2, ry, q2⟩ =>
    Calls.spliced_cons (thn (hf.run pins s2 σ H2 _ I2 q2) fun fv s3 ⟨z, H3, I3, rz, kvs, k, b, ea, ey, eb, hl, q3, q4⟩ => Calls.spliced_nil ?_))))
  subst ey
  obtain rfl : iv = Value.ref b := ry
  exact d_setdT hu I3 ea eb rz hl (fun v hv w' s4 I4 rw' => ⟨v, _, I4, rw', q3 v hv⟩) fun hn w' s4 I4 rw' => ⟨z, _, I4, rw', q4 hn⟩
end
end Kx
/-! Numbers for terms. -/
namespace K11
open PySem PySem.Spec PyProof.Rows L2 Kx
/-- is are places of ds among ts -/
def AtAll (ts : List PyData) : List Nat → List PyData → Prop
  | [], [] => True
  | i :: is, e :: es => ts[i]? = some e ∧ AtAll ts is es
  | _, _ => False
theorem AtAll.len {ts : List PyData} : ∀ {is : List Nat} {es : List PyData}, AtAll ts is es → is.length = es.length
  | [], [], _ => rfl
  | _ :: _, _ :: _, h => by rw [List.length_cons, List.length_cons, AtAll.len h.2]
  | [], _ :: _, h => h.elim
  | _ :: _, [], h => h.elim
theorem AtAll.app {ts : List PyData} : ∀ {is : List Nat} {es : List PyData} {js : List Nat} {fs : List PyData}, AtAll ts is es → AtAll ts js fs → AtAll ts (is ++ js) (es ++ fs)
  | [], [], _, _, _, g => g
  | _ :: _, _ :: _, _, _, h, g => ⟨h.1, AtAll.app h.2 g⟩
  | [], _ :: _, _, _, h, _ => h.elim
  | _ :: _, [], _, _, h, _ => h.elim
theorem AtAll.grow {ts : List PyData} (us : List PyData) : ∀ {is : List Nat} {es : List PyData}, AtAll ts is es → AtAll (ts ++ us) is es
  | [], [], _ => True.intro
  | i :: _, _ :: _, h => ⟨by rw [List.getElem?_append_left (List.getElem?_eq_some_iff.mp h.1).1]; exact h.1, AtAll.grow us h.2⟩
  | [], _ :: _, h => h.elim
  | _ :: _, [], h => h.elim
theorem AtAll.rev {ts : List PyData} : ∀ {is : List Nat} {es : List PyData}, AtAll ts is es → AtAll ts is.reverse es.reverse
  | [], [], _ => True.intro
  | i :: is, e :: es, h => by
    rw [List.reverse_cons, List.reverse_cons]
    exact AtAll.app (AtAll.rev h.2) ⟨h.1, True.intro⟩
  | [], _ :: _, h => h.elim
  | _ :: _, [], h => h.elim
theorem AtAll.same {ts : List PyData} : ∀ {is : List Nat} {es fs : List PyData}, AtAll ts is es → AtAll ts is fs → es = fs
  | [], [], [], _, _ => rfl
  | _ :: _, e :: es, f :: fs, h, g => by
    have e1 := Option.some.inj (h.1.symm.trans g.1)
    rw [e1, AtAll.same h.2 g.2]
  | [], _ :: _, _, h, _ => h.elim
  | _ :: _, [], _, h, _ => h.elim
  | [], [], _ :: _, _, g => g.elim
  | _ :: _, _ :: _, [], _, g => g.elim
theorem at_uniq {ts : List PyData} (nd : ts.Nodup) {i j : Nat} {t : PyData} (h : ts[i]? = some t) (g : ts[j]? = some t) : i = j := by
  obtain ⟨hi, e1⟩ := List.getElem?_eq_some_iff.mp h
  obtain ⟨hj, e2⟩ := List.getElem?_eq_some_iff.mp g
  exact (List.getElem_inj nd).mp (e1.trans e2.symm)
theorem AtAll.uniq {ts : List PyData} (nd : ts.Nodup) : ∀ {is js : List Nat} {es : List PyData}, AtAll ts is es → AtAll ts js es → is = js
  | [], [], [], _, _ => rfl
  | i :: is, j :: js, e :: es, h, g => by rw [at_uniq nd h.1 g.1, AtAll.uniq nd h.2 g.2]
  | [], _, _ :: _, h, _ => h.elim
  | _ :: _, _, [], h, _ => h.elim
  | _ :: _, [], _ :: _, _, g => g.elim
  | [], _ :: _, [], _, g => g.elim
/-- the last items of a list of places -/
theorem AtAll.split {ts : List PyData} : ∀ {es : List PyData} {is : List Nat} {fs : List PyData}, AtAll ts is (es ++ fs) → ∃ a b, is = a ++ b ∧ AtAll ts a es ∧ AtAll ts b fs
  | [], is, fs, h => ⟨[], is, rfl, True.intro, h⟩
  | e :: es, i :: is, fs, h => by
    obtain ⟨a, b, rfl, h1, h2⟩ := AtAll.split (es := es) h.2
    exact ⟨i :: a, b, rfl, ⟨h.1, h1⟩, h2⟩
  | _ :: _, [], _, h => h.elim
def numV (is : List Nat) : List V := is.map fun (n : Nat) => V.int (n : Int)
def numK (is : List Nat) : List Key := is.map fun (n : Nat) => (Sum.inl (n : Int) : Key)
def KeyOf (ts : List PyData) (key : List Key) (t : PyData) : Prop := ∃ (x : Str) (es : List PyData) (is : List Nat), t = .tuple (.str x :: es) ∧ key = Sum.inr x :: numK is ∧ AtAll ts is es
/-- the table of the terms ts -/
structure Tab (ts : List PyData) (kvs : List (List Key × V)) : Prop where
  len : kvs.length = ts.length
  nodup : ts.Nodup
  row : ∀ (i : Nat) t, ts[i]? = some t → ∃ key, kvs[i]? = some (key, V.int (i : Int)) ∧ KeyOf ts key t
  ord : ∀ (i : Nat) t, ts[i]? = some t → ∃ key, kvs[i]? = some (key, V.int (i : Int)) ∧ KeyOf (ts.take i) key t
theorem vals_some {k : List Key} {v : V} : ∀ {kvs : List (List Key × V)}, valV kvs k = some v → ∃ i : Nat, kvs[i]? = some (k, v)
  | [], h => by cases h
  | p :: r, h => by
    by_cases e : p.1 = k
    · rw [valV_pos e] at h
      refine ⟨0, ?_⟩
      rw [← e, ← Option.some.inj h]
      rfl
    · rw [valV_neg e] at h
      obtain ⟨i, hi⟩ := vals_some h
      exact ⟨i + 1, by simpa using hi⟩
theorem vals_none {k : List Key} : ∀ {kvs : List (List Key × V)}, valV kvs k = none → ∀ (i : Nat) (v : V), kvs[i]? ≠ some (k, v)
  | [], _, i, v => by simp
  | p :: r, h, i, v => by
    by_cases e : p.1 = k
    · rw [valV_pos e] at h
      cases h
    · rw [valV_neg e] at h
      intro z
      cases i with
      | zero =>
        rw [List.getElem?_cons_zero] at z
        exact e (by rw [Option.some.inj z])
      | succ i => exact vals_none h i v (by simpa using z)
theorem inl_inj : ∀ {is js : List Nat}, numK is = numK js → is = js
  | [], [], _ => rfl
  | [], _ :: _, h => by cases h
  | _ :: _, [], h => by cases h
  | i :: is, j :: js, h => by
    rw [show numK (i :: is) = Sum.inl (i : Int) :: numK is from rfl, show numK (j :: js) = Sum.inl (j : Int) :: numK js from rfl, List.cons.injEq] at h
    have e := Sum.inl.inj h.1
    rw [inl_inj h.2, show i = j by omega]
theorem KeyOf.same {ts : List PyData} {key : List Key} {t u : PyData} (h : KeyOf ts key t) (g : KeyOf ts key u) : t = u := by
  obtain ⟨x, es, is, rfl, e1, a1⟩ := h
  obtain ⟨y, fs, js, rfl, e2, a2⟩ := g
  rw [e1, List.cons.injEq] at e2
  have ex := Sum.inr.inj e2.1
  have ei := inl_inj e2.2
  subst ex ei
  rw [a1.same a2]
theorem KeyOf.uniq {ts : List PyData} (nd : ts.Nodup) {key kay : List Key} {t : PyData} (h : KeyOf ts key t) (g : KeyOf ts kay t) : key = kay := by
  obtain ⟨x, es, is, rfl, rfl, a1⟩ := h
  obtain ⟨y, fs, js, e, rfl, a2⟩ := g
  rw [PyData.tuple.injEq, List.cons.injEq, PyData.str.injEq] at e
  obtain ⟨ex, ef⟩ := e
  subst ex ef
  rw [a1.uniq nd a2]
theorem KeyOf.grow {ts : List PyData} {key : List Key} {t : PyData} (us : List PyData) (h : KeyOf ts key t) : KeyOf (ts ++ us) key t := by
  obtain ⟨x, es, is, e1, e2, a⟩ := h
  exact ⟨x, es, is, e1, e2, a.grow us⟩
theorem Tab.hit {ts : List PyData} {kvs : List (List Key × V)} {key : List Key} {t : PyData} {v : V} (T : Tab ts kvs) (k : KeyOf ts key t) (h : valV kvs key = some v) : ∃ i : Nat, v = .int (i : Int) ∧ ts[i]? = some t := by
  obtain ⟨i, hi⟩ := vals_some h
  have lt : i < ts.length := by
    rw [← T.len]
    exact (List.getElem?_eq_some_iff.mp hi).1
  obtain ⟨kay, e1, e2⟩ := T.row i _ (List.getElem?_eq_getElem lt)
  rw [hi, Option.some.injEq, Prod.mk.injEq] at e1
  obtain ⟨e1, e3⟩ := e1
  subst e1
  refine ⟨i, e3, ?_⟩
  rw [List.getElem?_eq_getElem lt, e2.same k]
theorem Tab.miss {ts : List PyData} {kvs : List (List Key × V)} {key : List Key} {t : PyData} (T : Tab ts kvs) (k : KeyOf ts key t) (h : valV kvs key = none) : Tab (ts ++ [t]) (kvs ++ [(key, .int (ts.length : Int))]) := by
  have no : t ∉ ts := fun z => by
    obtain ⟨i, hi⟩ := List.mem_iff_getElem?.mp z
    obtain ⟨kay, e1, e2⟩ := T.row i t hi
    rw [KeyOf.uniq T.nodup e2 k] at e1
    exact vals_none h i _ e1
  refine ⟨by rw [List.length_append, List.length_append, T.len]; rfl, ?_, fun i u hi => ?_, fun i u hi => ?_⟩
  · rw [List.nodup_append]
    refine ⟨T.nodup, by simp, fun a ha b hb => ?_⟩
    rw [List.mem_singleton.mp hb]
    rintro rfl
    exact no ha
  · by_cases lt : i < ts.length
    · rw [List.getElem?_append_left lt] at hi
      obtain ⟨kay, e1, e2⟩ := T.row i u hi
      exact ⟨kay, by rw [List.getElem?_append_left (by rw [T.len]; exact lt)]; exact e1, e2.grow _⟩
    · rw [List.getElem?_append_right (Nat.le_of_not_lt lt)] at hi
      have e0 : i - ts.length = 0 := by
        have := (List.getElem?_eq_some_iff.mp hi).1
        simp at this
        omega
      rw [e0] at hi
      simp at hi
      subst hi
      have ei : i = ts.length := by omega
      subst ei
      exact ⟨key, by rw [← T.len, List.getElem?_append_right (Nat.le_refl _), Nat.sub_self]; rfl, k.grow _⟩
  · by_cases lt : i < ts.length
    · rw [List.getElem?_append_left lt] at hi
      obtain ⟨kay, e1, e2⟩ := T.ord i u hi
      rw [List.take_append_of_le_length (Nat.le_of_lt lt)]
      exact ⟨kay, by rw [List.getElem?_append_left (by rw [T.len]; exact lt)]; exact e1, e2⟩
    · rw [List.getElem?_append_right (Nat.le_of_not_lt lt)] at hi
      have e0 : i - ts.length = 0 := by
        have := (List.getElem?_eq_some_iff.mp hi).1
        simp at this
        omega
      rw [e0] at hi
      simp at hi
      subst hi
      have ei : i = ts.length := by omega
      subst ei
      rw [List.take_append_of_le_length (Nat.le_refl _), List.take_length]
      exact ⟨key, by rw [← T.len, List.getElem?_append_right (Nat.le_refl _), Nat.sub_self]; rfl, k⟩
theorem keyV (x : Str) (is : List Nat) : ((Sum.inr x :: numK is) : List Key).map kV = V.str x :: numV is := by
  rw [List.map_cons, numK, List.map_map]
  rfl
end K11
/-! Slices and sums of tuples as data. -/
namespace Kx
open PySem PySem.Spec PyProof.Rows L2
theorem offs_nil {H : Hp} : Same H (OffS [] H) := fun b o h => OffS.out (fun z => nomatch z) h
theorem olds_nil {H : Hp} : Olds [] H := fun b z => nomatch z
section
variable {K : PySem.W.Frag} {S : List Addr} {H : Hp} {x y : V} {ds es : List PyData} {Q : VK}
theorem sl_upto {i : Nat} (hx : Dx K (OffS S H) x (.tuple ds)) (o : Olds S H) (q : ∀ y H', Same H H' → Dx K (OffS S H') y (.tuple (ds.take i)) → Q y H') : rSlA K x none (some (i : Int)) H Q := by
  cases hx with
  | @tup a xs _ ha hs =>
  refine ⟨a, xs, rfl, SqT.of (OffS.all _ _ ha), fun z => ?_, fun _ p np => ?_⟩
  · have e : min i xs.length = xs.length := by
      have := z.2
      rwa [show HT.sIx xs.length xs.length (some (i : Int)) = min i xs.length from HT.sIx_nat xs.length xs.length i] at this
    refine q _ _ (Same.refl H) ?_
    rw [List.take_of_length_le (by rw [← hs.length]; omega)]
    exact .tup ha hs
  · have e : cutV xs none (some (i : Int)) = xs.take i := by
      unfold cutV
      rw [show HT.sIx xs.length xs.length (some (i : Int)) = min i xs.length from HT.sIx_nat xs.length xs.length i, show HT.sIx xs.length 0 none = 0 from rfl, List.drop_zero, Nat.sub_zero]
      by_cases e : i ≤ xs.length
      · rw [Nat.min_eq_left e]
      · rw [Nat.min_eq_right (by omega), List.take_length, List.take_of_length_le (by omega)]
    rw [e]
    exact q _ _ (same_put np) (.tup (OffS.out (o.new np) upd_same) ((hs.take i).up (OffS.same (same_put np))))
theorem sl_from {i : Nat} (hx : Dx K (OffS S H) x (.tuple ds)) (o : Olds S H) (q : ∀ y H', Same H H' → Dx K (OffS S H') y (.tuple (ds.drop i)) → Q y H') : rSlA K x (some (i : Int)) none H Q := by
  cases hx with
  | @tup a xs _ ha hs =>
  refine ⟨a, xs, rfl, SqT.of (OffS.all _ _ ha), fun z => ?_, fun _ p np => ?_⟩
  · have e : min i xs.length = 0 := by
      have := z.1
      rwa [show HT.sIx xs.length 0 (some (i : Int)) = min i xs.length from HT.sIx_nat xs.length 0 i] at this
    refine q _ _ (Same.refl H) ?_
    by_cases h : i = 0
    · rw [h, List.drop_zero]
      exact .tup ha hs
    · have : ds = [] := List.eq_nil_of_length_eq_zero (by rw [← hs.length]; omega)
      rw [this] at hs ⊢
      rw [List.drop_nil]
      exact .tup ha hs
  · have e : cutV xs (some (i : Int)) none = xs.drop i := by
      unfold cutV
      rw [show HT.sIx xs.length 0 (some (i : Int)) = min i xs.length from HT.sIx_nat xs.length 0 i, HT.sIx_none]
      by_cases e : i ≤ xs.length
      · rw [Nat.min_eq_left e, List.take_of_length_le (by rw [List.length_drop]; omega)]
      · rw [Nat.min_eq_right (by omega), Nat.sub_self, List.take_zero, List.drop_eq_nil_of_le (by omega)]
    rw [e]
    exact q _ _ (same_put np) (.tup (OffS.out (o.new np) upd_same) ((hs.drop i).up (OffS.same (same_put np))))
theorem cat_tups (hx : Dx K (OffS S H) x (.tuple ds)) (hy : Dx K (OffS S H) y (.tuple es)) (o : Olds S H) (few : ds.length + es.length ≤ sizeLine) (q : ∀ z H', Same H H' → Dx K (OffS S H') z (.tuple (ds ++ es)) → Q z H') : rCatA K x y H Q := by
  cases hx with
  | @tup a xs _ ha hs =>
  cases hy with
  | @tup b ys _ hb ht =>
  refine ⟨a, b, xs, ys, rfl, rfl, SqT.of (OffS.all _ _ ha), SqT.of (OffS.all _ _ hb), by rw [hs.length, ht.length]; exact few, fun e => ?_, fun _ e => ?_, fun _ _ p np => ?_⟩
  · subst e
    cases hs
    exact q _ _ (Same.refl H) (.tup hb ht)
  · subst e
    cases ht
    rw [List.append_nil] at q
    exact q _ _ (Same.refl H) (.tup ha hs)
  · exact q _ _ (same_put np) (.tup (OffS.out (o.new np) upd_same) (DxAll.append (hs.up (OffS.same (same_put np))) (ht.up (OffS.same (same_put np)))))
end
end Kx
/-! All but some addresses stay. -/
namespace Kx
open PySem PySem.Spec PyProof.Rows L2
def ButL (S : List Addr) (H H' : Hp) : Prop := ∀ b o, H b = some o → b ∉ S → H' b = some o
section
variable {S S' : List Addr} {H H0 G G' : Hp} {b p : Addr} {o u : HO}
theorem ButL.refl : ButL S H H := fun _ _ h _ => h
theorem ButL.of (s : Same H G) : ButL S H G := fun b o h _ => s b o h
theorem ButL.trans (x : ButL S H G) (y : ButL S G G') : ButL S H G' := fun b o h n => y b o (x b o h n) n
theorem ButL.at (x : ButL S H G) (e : H b = some o) (n : b ∉ S) : G b = some o := x b o e n
theorem ButL.put (x : ButL S H G) (m : b ∈ S) : ButL S H (upd G b u) := fun c o h n => by
  rw [upd_ne (fun z : c = b => n (by rw [z]; exact m))]
  exact x c o h n
theorem ButL.new (x : ButL S H G) (np : G p = none) : ButL S H (upd G p u) := fun c o h n => by
  rw [upd_ne (ne_of_none (x c o h n) np)]
  exact x c o h n
theorem ButL.same (s : Same H0 H) (n : ∀ b ∈ S, H0 b = none) (x : ButL S H G) : Same H0 G := fun b o h => x b o (s b o h) fun z => by
  rw [n b z] at h
  cases h
theorem ButL.weak (x : ButL S H G) (h : ∀ b ∈ S, b ∈ S') : ButL S' H G := fun b o e n => x b o e fun z => n (h b z)
end
end Kx
namespace Kx
open PySem PySem.Spec PyProof.Rows L2
section
variable {S S' : List Addr} {H G : Hp}
theorem offs_but (x : ButL S' H G) (n : ∀ b, b ∈ S' → b ∉ S → H b = none) : Same (OffS S H) (OffS S G) := fun b o h => by
  obtain ⟨m, h⟩ := OffS.of h
  refine OffS.out m (x b o h fun z => ?_)
  rw [n b z m] at h
  cases h
theorem same_offs (s : Same H G) (n : ∀ b, b ∈ S → H b = none) : Same H (OffS S G) := fun b o h => OffS.out (fun z => by
  rw [n b z] at h
  cases h) (s b o h)
end
end Kx
/-! numbered_rows, numbered. -/
namespace K11
open PySem PySem.Spec PyProof.Rows L2 Kx
theorem isKeys_up {H H' : Hp} {kvs : List (List Key × V)} {bs : List Addr} (s : Same H H') (h : IsKeys H kvs bs) : IsKeys H' kvs bs := by
  unfold IsKeys at h ⊢
  induction h with
  | nil => exact .nil
  | cons a _ ih => exact .cons (s _ _ a) ih
theorem numV_app (a b : List Nat) : numV (a ++ b) = numV a ++ numV b := List.map_append ..
theorem at_of {α : Type} {l : List α} {k : Nat} (h : k < l.length) : l[k]? = some l[k] := List.getElem?_eq_getElem h
section
variable {P : Program} {w : World} {K : PySem.W.Frag} {mg : Str → Option Value} {base : Heap}
def spRows (K : PySem.W.Frag) : Sp := fun vs H Q _ => ∃ (a : Addr) (ws : List V) (st : List PyData), vs = [.ref a] ∧ SqL K H a ws ∧ DxAll K H ws (preAll st) ∧ formedAll st = true ∧ (preAll st).length ≤ 100000 ∧
  ∀ p nl tl H' ts is kvs bs, Same H H' → H' p = some (.tup [.ref nl, .ref tl]) → H' nl = some (.lst (numV is)) → AtAll ts is (preAll st) → Tab ts kvs → H' tl = some (.lst (bs.map V.ref)) → IsKeys H' kvs bs → (∀ u, u ∈ ts → u ∈ preAll st) → Q (.ref p) H'
theorem ok_rows (T : Tx K mg) : FnOk P w K mg base CX0 1 T.anumbered_rows T.dnumbered_rows ["parts"] (spRows K) := by
  have nd := sc_numbered_rows.nd
  refine T.fnumbered_rows.ok sc_numbered_rows (fun vs H Q E h => ?_) (fun cdv A outer s H vs Q E hr h => ?_)
  · obtain ⟨a, ws, st, rfl, _⟩ := h
    rfl
  · obtain ⟨a, ws, st0, rfl, ha, hx, hf, bd, q⟩ := h
    have hu := hu_of hr
    refine ⟨_, (pss_cons (ps_set (i := 1) nd rfl (.inl rfl) pe_dnewT)
      (pss_cons (ps_set (i := 2) nd rfl (.inr rfl) (pe_lst pa_nil))
      (pss_cons (ps_set (i := 3) nd rfl (.inl rfl) (pe_lst pa_nil))
      (pss_cons (ps_for PassesOwn.never rfl (pi_list (pe_revL (pv 0))) (pg_name (i := 4) nd rfl (.inl rfl)) (pss_cons (ps_setLc (i := 5) (own := [("_", 7)]) (g := (gName 7)) (tt := tYes) (te := tBM0 K "list" rPop (tVar 2)) (by rfl) nd rfl rfl (sw_true rfl rfl rfl (by decide +kernel)) (pi_tup (pe_slice sl_tupA (pv 4) (po_some pe_int) po_none)) (blkOk_by (own := [("_", 7)]) (N := N_numbered_rows) (sc := defScope s_numbered_rows) (by decide +kernel)) (fun _ _ _ _ _ => pg_name (i := 7) nd rfl (.inl rfl)) (fun _ _ _ _ _ => pts_nil) (fun _ _ _ _ _ => by exact (pe_bm0 PySem.F.plainAttrs_list PySem.F.slot_list_pop PySem.F.type_list_pop mt_pop (pv 2))))
      (C8.pss_cut (ps_set (i := 6) nd rfl (.inl rfl) (pe_dsetT hu (pv 1) (pe_tup (pa_cons (pe_ix ix_tup (pv 4) pe_int (fun _ _ => rfl)) (StX.pa_star (pv 5) pa_nil))) (pe_callB call_len_dT (by rfl) T.b_len (by decide +kernel) (pa_cons (pv 1) pa_nil)) ⟨by rfl, by rfl, by rfl, by rfl⟩))
      (pss_cons (ps_expr (pe_bm PySem.F.plainAttrs_list PySem.F.slot_list_append PySem.F.type_list_append mt_append (pv 2) (pa_cons (pv 6) pa_nil)))
      (pss_one (ps_expr (pe_bm PySem.F.plainAttrs_list PySem.F.slot_list_append PySem.F.type_list_append mt_append (pv 3) (pa_cons (pv 6) pa_nil))))))))
      (pss_one (ps_ret (pe_tup (pa_cons (pe_revL (pv 3)) (pa_cons (pe_callTy (call_list_dT rfl) (by rfl) T.b_list (by decide +kernel) (pa_cons (pv 1) pa_nil)) pa_nil))))))))), ?_⟩
    intro t nt
    have s1 := same_put (o := .dT []) nt
    have et1 : (upd H t (.dT [])) t = some (.dT []) := upd_same
    generalize upd H t (.dT []) = H1 at s1 et1 ⊢
    refine ⟨Nat.zero_le _, fun rd nrd => ?_⟩
    have nrd0 := s1.free nrd
    have ntr : t ≠ rd := ne_of_none et1 nrd
    have s2 := s1.trans (same_put (o := .lst []) nrd)
    have et2 := same_put (o := .lst []) nrd _ _ et1
    have er2 : (upd H1 rd (.lst [])) rd = some (.lst []) := upd_same
    generalize upd H1 rd (.lst []) = H2 at s2 et2 er2 ⊢
    refine ⟨Nat.zero_le _, fun nm nnm => ?_⟩
    have nnm0 := s2.free nnm
    have ntn : t ≠ nm := ne_of_none et2 nnm
    have nrn : rd ≠ nm := ne_of_none er2 nnm
    have s3 := s2.trans (same_put (o := .lst []) nnm)
    have et3 := same_put (o := .lst []) nnm _ _ et2
    have er3 := same_put (o := .lst []) nnm _ _ er2
    have en3 : (upd H2 nm (.lst [])) nm = some (.lst []) := upd_same
    generalize upd H2 nm (.lst []) = H3 at s3 et3 er3 en3 ⊢
    refine ⟨_, rfl, a, ws, rfl, s3.seq ha, fun rp nrp => ?_⟩
    have nrp0 := s3.free nrp
    have ntp : t ≠ rp := ne_of_none et3 nrp
    have nrr : rd ≠ rp := ne_of_none er3 nrp
    have nnp : nm ≠ rp := ne_of_none en3 nrp
    have s4 := s3.trans (same_put (o := .lst ws.reverse) nrp)
    have et4 := same_put (o := .lst ws.reverse) nrp _ _ et3
    have er4 := same_put (o := .lst ws.reverse) nrp _ _ er3
    have en4 := same_put (o := .lst ws.reverse) nrp _ _ en3
    have ep4 : (upd H3 rp (.lst ws.reverse)) rp = some (.lst ws.reverse) := upd_same
    generalize upd H3 rp (.lst ws.reverse) = H4 at s4 et4 er4 en4 ep4 ⊢
    have lw := hx.length
    refine ⟨rp, rfl, ⟨_, .inl (.inl ep4)⟩, for_list (K := K) (a := rp) (xs := ws.reverse) (fun i σ H' => (∃ y4 y5 y6 y7, σ = [some (.ref a), some (.ref t), some (.ref rd), some (.ref nm), y4, y5, y6, y7]) ∧ Same H H' ∧ H' rp = some (.lst ws.reverse) ∧
        ∃ (ts : List PyData) (kvs : List (List Key × V)) (rs ms : List Nat), H' t = some (.dT kvs) ∧ Tab ts kvs ∧ (ts.length ≤ i ∧ ∀ u, u ∈ ts → u ∈ preAll st0) ∧ H' rd = some (.lst (numV rs)) ∧ AtAll ts rs (stk st0 ((preAll st0).length - i)).reverse ∧ H' nm = some (.lst (numV ms)) ∧ AtAll ts ms ((preAll st0).drop ((preAll st0).length - i)).reverse)
      ⟨⟨_, _, _, _, rfl⟩, s4, ep4, [], [], [], [], et4, ⟨rfl, List.nodup_nil, (fun i t h => by simp at h), fun i t h => by simp at h⟩, ⟨Nat.zero_le _, fun u hu => nomatch hu⟩, er4, ?_, en4, ?_⟩ (fun i σ H' _ h => .inl (.inl h.2.2.1)) ?_ ?_⟩
    · rw [Nat.sub_zero, stk_end hf (Nat.le_refl _)]
      exact True.intro
    · rw [Nat.sub_zero, List.drop_length]
      exact True.intro
    · rintro i x σ G hi ⟨⟨y4, y5, y6, y7, rfl⟩, sG, epG, ts, kvs, rs, ms, etG, tab, ⟨lts, mts⟩, erG, ars, enG, ams⟩
      obtain ⟨lti, hi⟩ := rev_at hi
      rw [lw] at lti hi
      obtain ⟨v', hv', dx⟩ := hx.get (at_of (show (preAll st0).length - 1 - i < (preAll st0).length by omega))
      rw [hi] at hv'
      cases hv'
      obtain ⟨r, ek, fd, fr, ek1⟩ := stk_at hf (at_of (show (preAll st0).length - 1 - i < (preAll st0).length by omega))
      have ed := drop_at (at_of (show (preAll st0).length - 1 - i < (preAll st0).length by omega))
      rw [show (preAll st0).length - 1 - i + 1 = (preAll st0).length - i by omega] at ek1 ed
      rw [ek1] at ars
      have en1 : (preAll st0).length - (i + 1) = (preAll st0).length - 1 - i := by omega
      have md : (preAll st0)[(preAll st0).length - 1 - i] ∈ preAll st0 := List.getElem_mem _
      generalize (preAll st0)[(preAll st0).length - 1 - i] = d at dx ek fd ek1 ed ars md
      obtain ⟨nm', es, rfl, l3, hnm, hfa⟩ := formed_shape fd
      rw [show kidsD (.tuple (.str nm' :: es)) = es from rfl, List.reverse_append] at ars
      obtain ⟨ra, rb, rfl, ara, arb⟩ := ars.split
      obtain ⟨ks, rfl⟩ : ∃ ks, rb = ks.reverse := ⟨rb.reverse, (List.reverse_reverse _).symm⟩
      have akb := arb.rev
      rw [List.reverse_reverse, List.reverse_reverse] at akb
      have lks := akb.len
      have lra := ara.len
      rw [List.length_reverse] at lra
      have dx' := dx
      cases dx' with
      | @tup b xs _ hb hs =>
      cases hs with
      | @cons v0 vr _ _ h0 hws =>
      cases h0
      have lvr := hws.length
      have hbG := sG _ _ hb
      refine ⟨_, rfl, 1, rfl, ?_⟩
      dsimp only [tNoPart]
      refine sl_from (S := []) (i := 1) ((dx.up sG).up offs_nil) olds_nil fun y G1 sG1 dy => ?_
      have dy := dy.up OffS.all
      rw [List.drop_one, List.tail_cons] at dy
      cases dy with
      | @tup c us _ hc hus =>
      have lus := hus.length
      refine ⟨c, rfl, ⟨_, SqT.of hc⟩, fun D nD => ?_⟩
      have ntD : t ≠ D := ne_of_none (sG1 _ _ etG) nD
      have nrD : rd ≠ D := ne_of_none (sG1 _ _ erG) nD
      have nnD : nm ≠ D := ne_of_none (sG1 _ _ enG) nD
      have npD : rp ≠ D := ne_of_none (sG1 _ _ epG) nD
      have ncD : c ≠ D := ne_of_none hc nD
      have ncr : c ≠ rd := fun e => by
        rw [e, sG1 _ _ erG] at hc
        cases hc
      refine lc_tup (K := K) (a := c) (xs := us) (fun j H6 => ButL [rd, D] G1 H6 ∧ H6 rd = some (.lst (numV (ra ++ (ks.drop j).reverse))) ∧ H6 D = some (.lst (numV (ks.take j))))
        ⟨ButL.of (same_put nD), by rw [upd_ne nrD, List.drop_zero]; exact sG1 _ _ erG, by rw [upd_same]; rfl⟩ (fun j H6 _ h => SqT.of (h.1.at hc (by simp [ncr, ncD]))) ?_ ?_
      · rintro j y H6 hj ⟨bt, e6, eD⟩
        have ltj : j < ks.length := by
          rw [lks, ← lus]
          exact (List.getElem?_eq_some_iff.mp hj).1
        have e6' : H6 rd = some (.lst (numV (ra ++ (ks.drop (j + 1)).reverse) ++ [V.int (ks[j] : Nat)])) := by
          rw [e6, drop_at (at_of ltj), List.reverse_cons, ← List.append_assoc, numV_app]
          rfl
        refine ⟨rfl, (iteT (B := False) ?_ : if true = true then _ else False)⟩
        refine ⟨_, rfl, .inl ⟨rfl, _, .inl (.inl e6')⟩, rd, _, V.int (ks[j] : Nat), rfl, rfl, e6', by simp, ?_⟩
        rw [List.dropLast_concat]
        refine ⟨_, by rw [upd_ne nrD.symm]; exact eD, ?_, ?_, ?_, ?_⟩
        · rw [numV, List.length_map, List.length_take]
          exact small1000 (by omega)
        · exact (bt.put (by simp)).put (by simp)
        · rw [upd_ne nrD, upd_same]
        · rw [upd_same, List.take_add_one, at_of ltj, numV_app]
          rfl
      · rintro H6 ⟨bt, e6, eD⟩
        rw [lus, ← lks, List.drop_length, List.reverse_nil, List.append_nil] at e6
        rw [lus, ← lks, List.take_length] at eD
        have et6 := bt.at (sG1 _ _ etG) (by simp [ntr, ntD])
        have en6 := bt.at (sG1 _ _ enG) (by simp [nrn.symm, nnD])
        have ep6 := bt.at (sG1 _ _ epG) (by simp [nrr.symm, npD])
        have nD0 : H D = none := (sG.trans sG1).free nD
        have s6 : Same H H6 := ButL.same (sG.trans sG1) (fun z hz => by
          rcases List.mem_cons.mp hz with e | hz
          · rw [e]; exact nrd0
          · rw [List.mem_singleton.mp hz]; exact nD0) bt
        have hb6 := s6 _ _ hb
        have keyOf : KeyOf ts (Sum.inr nm' :: numK ks) (.tuple (.str nm' :: es)) := ⟨nm', es, ks, rfl, rfl, akb⟩
        -- number = table.setdefault(..)
        refine ⟨fun σ' H' => ∃ (ts' : List PyData) (kvs' : List (List Key × V)) (n : Nat) (y7' : Option V), σ' = [some (.ref a), some (.ref t), some (.ref rd), some (.ref nm), some (.ref b), some (.ref D), some (.int (n : Int)), y7'] ∧ Same H H' ∧ H' rp = some (.lst ws.reverse) ∧ H' t = some (.dT kvs') ∧ Tab ts' kvs' ∧ (ts'.length ≤ i + 1 ∧ ∀ u, u ∈ ts' → u ∈ preAll st0) ∧ (∃ u, ts' = ts ++ u) ∧ ts'[n]? = some (.tuple (.str nm' :: es)) ∧ H' rd = some (.lst (numV ra)) ∧ H' nm = some (.lst (numV ms)), ?_, ?_⟩
        · refine ⟨_, rfl, t, rfl, .inr ⟨kvs, .inl et6⟩, _, rfl, b, _, 0, _, rfl, rfl, SqT.of hb6, atI_nat (j := 0) rfl, _, rfl, D, _, rfl, .inr (.inl (.inl eD)), ?_, fun q nq => ?_⟩
          · simp only [List.append_nil, List.length_cons, numV, List.length_map]
            exact Nat.le_of_lt (small1000 (by omega))
          · have et7 := same_put (o := .tup (V.str nm' :: (numV ks ++ []))) nq _ _ et6
            have er7 := same_put (o := .tup (V.str nm' :: (numV ks ++ []))) nq _ _ e6
            have en7 := same_put (o := .tup (V.str nm' :: (numV ks ++ []))) nq _ _ en6
            have ep7 := same_put (o := .tup (V.str nm' :: (numV ks ++ []))) nq _ _ ep6
            have s7 := s6.trans (same_put (o := .tup (V.str nm' :: (numV ks ++ []))) nq)
            have eq7 : (upd H6 q (.tup (V.str nm' :: (numV ks ++ [])))) q = some (.tup ((Sum.inr nm' :: numK ks : List Key).map kV)) := by rw [upd_same, keyV, List.append_nil]
            generalize upd H6 q (.tup (V.str nm' :: (numV ks ++ []))) = H7 at et7 er7 en7 ep7 s7 eq7 ⊢
            refine ⟨_, rfl, t, kvs, rfl, et7, kvs, _, q, et7, rfl, eq7, big5 (by rw [tab.len]; omega), fun v hv => ?_, fun hv => ?_⟩
            · obtain ⟨n, rfl, hn⟩ := tab.hit keyOf hv
              exact ⟨ts, kvs, n, _, rfl, s7, ep7, et7, tab, ⟨by omega, mts⟩, ⟨[], (List.append_nil _).symm⟩, hn, er7, en7⟩
            · refine ⟨ts ++ [.tuple (.str nm' :: es)], kvs ++ [(Sum.inr nm' :: numK ks, .int (ts.length : Int))], ts.length, _, by rw [tab.len]; rfl, fun z o hz => ?_, by rw [upd_ne ntp.symm]; exact ep7, ?_, tab.miss keyOf hv, ⟨by rw [List.length_append, List.length_singleton]; omega, fun u hu => (List.mem_append.mp hu).elim (mts u) fun h => by rw [List.mem_singleton.mp h]; exact md⟩, ⟨_, rfl⟩, by simp, by rw [upd_ne ntr.symm]; exact er7, by rw [upd_ne ntn.symm]; exact en7⟩
              · rw [upd_ne (ne_of_none hz nt)]
                exact s7 z o hz
              · rw [upd_same, putK_new _ hv, tab.len]
        · rintro σ' H7 ⟨ts', kvs', n, y7', rfl, s7, ep7, et7, tab', lts', ⟨u, eu⟩, hn, er7, en7⟩
          have lms := ams.len
          rw [List.length_reverse, List.length_drop] at lms
          have lst : (stk st0 ((preAll st0).length - i)).length ≤ 100000 := by
            have := len_pre (stk st0 ((preAll st0).length - i))
            rw [stk_drop hf, List.length_drop] at this
            omega
          rw [ek1, List.length_append] at lst
          refine ⟨_, rfl, .inl ⟨rfl, _, .inl (.inl er7)⟩, _, rfl, rd, _, .int (n : Int), rfl, rfl, er7, big5 (by rw [numV, List.length_map]; omega), ?_⟩
          have en8 : (upd H7 rd (.lst (numV ra ++ [V.int (n : Int)]))) nm = some (.lst (numV ms)) := by
            rw [upd_ne nrn.symm]
            exact en7
          refine ⟨_, rfl, .inl ⟨rfl, _, .inl (.inl en8)⟩, _, rfl, nm, _, .int (n : Int), rfl, rfl, en8, big5 (by rw [numV, List.length_map]; omega), ?_⟩
          refine ⟨⟨_, _, _, _, rfl⟩, fun z o hz => ?_, ?_, ts', kvs', ra ++ [n], ms ++ [n], ?_, tab', lts', ?_, ?_, ?_, ?_⟩
          · rw [upd_ne (ne_of_none hz nnm0), upd_ne (ne_of_none hz nrd0)]
            exact s7 z o hz
          · rw [upd_ne nnp.symm, upd_ne nrr.symm]
            exact ep7
          · rw [upd_ne ntn, upd_ne ntr]
            exact et7
          · rw [upd_ne nrn, upd_same]
            simp [numV]
          · rw [en1, ek, List.reverse_cons, eu]
            rw [eu] at hn
            exact (ara.grow u).app ⟨hn, True.intro⟩
          · rw [upd_same]
            simp [numV]
          · rw [en1, ed, List.reverse_cons, eu]
            rw [eu] at hn
            exact (ams.grow u).app ⟨hn, True.intro⟩
    · rintro σ G ⟨⟨y4, y5, y6, y7, rfl⟩, sG, epG, ts, kvs, rs, ms, etG, tab, ⟨lts, mts⟩, erG, ars, enG, ams⟩
      have eN : (preAll st0).length - ws.reverse.length = 0 := by rw [List.length_reverse, lw]; omega
      rw [eN, List.drop_zero] at ams
      refine ⟨_, rfl, nm, _, rfl, .inl (.inl enG), fun l1 n1 => ?_⟩
      have sl1 := same_put (o := .lst (numV ms).reverse) n1
      refine ⟨_, rfl, t, kvs, rfl, .inl (sl1 _ _ etG), fun l2 bs n2 ik => ?_⟩
      have sl2 := same_put (o := .lst (bs.map V.ref)) n2
      have n12 : l1 ≠ l2 := ne_of_none upd_same n2
      refine ⟨by show 2 ≤ sizeLine; decide, fun p np => ?_⟩
      have sp := same_put (o := .tup [V.ref l1, V.ref l2]) np
      refine q p l1 l2 _ ts ms.reverse kvs bs (sG.trans (sl1.trans (sl2.trans sp))) upd_same (sp _ _ (sl2 _ _ ?_)) ?_ tab (sp _ _ upd_same) (isKeys_up (sl2.trans sp) ik) mts
      · rw [upd_same, numV, numV, List.map_reverse]
      · have := ams.rev
        rwa [List.reverse_reverse] at this
end
end K11
/-! Terms replaced, terms with other names. -/
namespace K11
open PySem PySem.Spec PyProof.Rows L2 Kx
mutual
theorem eqv_eq : ∀ (d o : PyData), formedD d = true → PyData.eqv d o = true → d = o
  | .tuple (.str x :: ds), .tuple (.str y :: es), h, e => by
    simp only [PyData.eqv, PyData.eqvAll, Bool.and_eq_true, beq_iff_eq] at e
    rw [formedD, Bool.and_eq_true] at h
    rw [e.1, eqv_all ds es h.2 e.2]
  | .tuple (.str x :: ds), .tuple [], h, e => by simp [PyData.eqv, PyData.eqvAll] at e
  | .tuple (.str x :: ds), .tuple (.none :: es), h, e => by simp [PyData.eqv, PyData.eqvAll] at e
  | .tuple (.str x :: ds), .tuple (.bool _ :: es), h, e => by simp [PyData.eqv, PyData.eqvAll] at e
  | .tuple (.str x :: ds), .tuple (.int _ :: es), h, e => by simp [PyData.eqv, PyData.eqvAll] at e
  | .tuple (.str x :: ds), .tuple (.list _ :: es), h, e => by simp [PyData.eqv, PyData.eqvAll] at e
  | .tuple (.str x :: ds), .tuple (.tuple _ :: es), h, e => by simp [PyData.eqv, PyData.eqvAll] at e
  | .tuple (.str x :: ds), .tuple (.dict _ :: es), h, e => by simp [PyData.eqv, PyData.eqvAll] at e
  | .tuple (.str x :: ds), .none, h, e => by simp [PyData.eqv] at e
  | .tuple (.str x :: ds), .bool _, h, e => by simp [PyData.eqv] at e
  | .tuple (.str x :: ds), .int _, h, e => by simp [PyData.eqv] at e
  | .tuple (.str x :: ds), .str _, h, e => by simp [PyData.eqv] at e
  | .tuple (.str x :: ds), .list _, h, e => by simp [PyData.eqv] at e
  | .tuple (.str x :: ds), .dict _, h, e => by simp [PyData.eqv] at e
  | .tuple (.none :: ds), _, h, e => by simp [formedD, nameD] at h
  | .tuple (.bool _ :: ds), _, h, e => by simp [formedD, nameD] at h
  | .tuple (.int _ :: ds), _, h, e => by simp [formedD, nameD] at h
  | .tuple (.list _ :: ds), _, h, e => by simp [formedD, nameD] at h
  | .tuple (.tuple _ :: ds), _, h, e => by simp [formedD, nameD] at h
  | .tuple (.dict _ :: ds), _, h, e => by simp [formedD, nameD] at h
  | .tuple [], _, h, e => by simp [formedD] at h
  | .none, _, h, e => by simp [formedD] at h
  | .bool _, _, h, e => by simp [formedD] at h
  | .int _, _, h, e => by simp [formedD] at h
  | .str _, _, h, e => by simp [formedD] at h
  | .list _, _, h, e => by simp [formedD] at h
  | .dict _, _, h, e => by simp [formedD] at h
theorem eqv_all : ∀ (ds es : List PyData), formedAll ds = true → PyData.eqvAll ds es = true → ds = es
  | [], [], _, _ => rfl
  | [], _ :: _, _, e => by simp [PyData.eqvAll] at e
  | _ :: _, [], _, e => by simp [PyData.eqvAll] at e
  | d :: ds, e :: es, h, g => by
    rw [formedAll, Bool.and_eq_true] at h
    rw [PyData.eqvAll, Bool.and_eq_true] at g
    rw [eqv_eq d e h.1 g.1, eqv_all ds es h.2 g.2]
end
mutual
theorem eqv_self : ∀ (d : PyData), formedD d = true → PyData.eqv d d = true
  | .tuple (.str x :: ds), h => by
    rw [formedD, Bool.and_eq_true] at h
    simp only [PyData.eqv, PyData.eqvAll, Bool.and_eq_true, beq_iff_eq]
    exact ⟨trivial, eqv_selfs ds h.2⟩
  | .tuple (.none :: ds), h => by simp [formedD, nameD] at h
  | .tuple (.bool _ :: ds), h => by simp [formedD, nameD] at h
  | .tuple (.int _ :: ds), h => by simp [formedD, nameD] at h
  | .tuple (.list _ :: ds), h => by simp [formedD, nameD] at h
  | .tuple (.tuple _ :: ds), h => by simp [formedD, nameD] at h
  | .tuple (.dict _ :: ds), h => by simp [formedD, nameD] at h
  | .tuple [], h => by simp [formedD] at h
  | .none, h => by simp [formedD] at h
  | .bool _, h => by simp [formedD] at h
  | .int _, h => by simp [formedD] at h
  | .str _, h => by simp [formedD] at h
  | .list _, h => by simp [formedD] at h
  | .dict _, h => by simp [formedD] at h
theorem eqv_selfs : ∀ (ds : List PyData), formedAll ds = true → PyData.eqvAll ds ds = true
  | [], _ => by simp [PyData.eqvAll]
  | d :: ds, h => by
    rw [formedAll, Bool.and_eq_true] at h
    rw [PyData.eqvAll, eqv_self d h.1, eqv_selfs ds h.2]
    rfl
end
theorem eqv_iff {d o : PyData} (h : formedD d = true) : PyData.eqv d o = true ↔ d = o :=
  ⟨eqv_eq d o h, fun e => by rw [← e]; exact eqv_self d h⟩
mutual
/-- n in the place of o -/
def putD (o n : PyData) : PyData → PyData
  | .tuple (x :: ds) => if PyData.eqv (.tuple (x :: ds)) o = true then n else .tuple (x :: putAll o n ds)
  | d => if PyData.eqv d o = true then n else d
def putAll (o n : PyData) : List PyData → List PyData
  | [] => []
  | d :: ds => putD o n d :: putAll o n ds
end
theorem putAll_map (o n : PyData) : ∀ ds : List PyData, putAll o n ds = ds.map (putD o n)
  | [] => rfl
  | d :: ds => by rw [putAll, putAll_map o n ds, List.map_cons]
mutual
/-- other names -/
def renD (f : Str → Str) : PyData → PyData
  | .tuple (x :: ds) => .tuple ((match x with | .str z => .str (f z) | c => c) :: renAll f ds)
  | d => d
def renAll (f : Str → Str) : List PyData → List PyData
  | [] => []
  | d :: ds => renD f d :: renAll f ds
end
theorem renAll_map (f : Str → Str) : ∀ ds : List PyData, renAll f ds = ds.map (renD f)
  | [] => rfl
  | d :: ds => by rw [renAll, renAll_map f ds, List.map_cons]
mutual
theorem put_formed (o n : PyData) (hn : formedD n = true) : ∀ d : PyData, formedD d = true → formedD (putD o n d) = true
  | .tuple (x :: ds), h => by
    rw [putD]
    split
    · exact hn
    · rw [formedD, Bool.and_eq_true] at h ⊢
      refine ⟨?_, put_formeds o n hn ds h.2⟩
      rw [putAll_map, List.length_map]
      exact h.1
  | .tuple [], h => by cases h
  | .none, h => by cases h
  | .bool _, h => by cases h
  | .int _, h => by cases h
  | .str _, h => by cases h
  | .list _, h => by cases h
  | .dict _, h => by cases h
theorem put_formeds (o n : PyData) (hn : formedD n = true) : ∀ ds : List PyData, formedAll ds = true → formedAll (putAll o n ds) = true
  | [], _ => rfl
  | d :: ds, h => by
    rw [formedAll, Bool.and_eq_true] at h
    rw [putAll, formedAll, put_formed o n hn d h.1, put_formeds o n hn ds h.2]
    rfl
end
mutual
theorem ren_formed (f : Str → Str) (hf : ∀ x, isNm x = true → isNm (f x) = true) : ∀ d : PyData, formedD d = true → formedD (renD f d) = true
  | .tuple (.str x :: ds), h => by
    simp only [renD, formedD, Bool.and_eq_true, nameD] at h ⊢
    refine ⟨⟨?_, hf x h.1.2⟩, ren_formeds f hf ds h.2⟩
    rw [renAll_map, List.length_map]
    exact h.1.1
  | .tuple (.none :: ds), h => by simp [formedD, nameD] at h
  | .tuple (.bool _ :: ds), h => by simp [formedD, nameD] at h
  | .tuple (.int _ :: ds), h => by simp [formedD, nameD] at h
  | .tuple (.list _ :: ds), h => by simp [formedD, nameD] at h
  | .tuple (.tuple _ :: ds), h => by simp [formedD, nameD] at h
  | .tuple (.dict _ :: ds), h => by simp [formedD, nameD] at h
  | .tuple [], h => by cases h
  | .none, h => by cases h
  | .bool _, h => by cases h
  | .int _, h => by cases h
  | .str _, h => by cases h
  | .list _, h => by cases h
  | .dict _, h => by cases h
theorem ren_formeds (f : Str → Str) (hf : ∀ x, isNm x = true → isNm (f x) = true) : ∀ ds : List PyData, formedAll ds = true → formedAll (renAll f ds) = true
  | [], _ => rfl
  | d :: ds, h => by
    rw [formedAll, Bool.and_eq_true] at h
    rw [renAll, formedAll, ren_formed f hf d h.1, ren_formeds f hf ds h.2]
    rfl
end
end K11
/-! {elt for target in iter}, elt a text or an int; its length. -/
namespace Kx
open PySem PySem.Spec PyProof.Rows L2 PpSet
section
variable {X : Cx}
/-- what a turn leaves: Nx the heap behind it -/
abbrev TurnK (P : Program) (w : World) (D : Addr) (te : TE) (σ : L2.St) (H : Hp) (Nx : Hp → Prop) : Prop :=
  te σ H fun y G => ∃ (c : Key) (S : Key → Bool) (n : Nat), y = kV c ∧ G D = some (L2.SetK P w D S n) ∧ n + 1 < scanBound ∧ Nx (upd G D (L2.SetK P w D (fun j => S j || decide (j = c)) (if S c = true then n else n + 1)))
def tScK (P : Program) (w : World) (wi : TI) (g : TG) (tt : TT) (te : TE) (vs : List Nat) : TE := fun σ H Q => wi σ H fun J H1 => ∀ D, H1 D = none →
  ∃ W : Nat → Nat → Hp → Prop, (∃ m, W 0 m (upd H1 D (L2.SetK P w D (fun _ => false) 0))) ∧ ∀ i m G, W i m G → (J.stop i G ∧ Q (.ref D) G) ∨
    (J.go i G ∧ ∃ Nx : Hp → Prop, (∀ G', Nx G' → ∃ m', m' < m ∧ W (i + 1) m' G') ∧ ∀ x G', J.yld i G x G' → g x (wipe σ vs) G' fun σ2 G2 => wipe σ2 vs = wipe σ vs ∧ tt σ2 G2 fun b G3 => if b = true then TurnK P w D te σ2 G3 Nx else Nx G3)
theorem emptyK {P : Program} {w : World} {h : Heap} : (h.push { cls := .type "set", dict := none, data := .set #[] 0 (.fresh 0 0 (!w.params.followText "set-order")) }).SetOf (mixKind P w) h.objs.size (fun _ => false) 0 :=
  ⟨_, #[], 0, _, Heap.get?_push_size _ rfl, ⟨rfl, rfl, rfl⟩, rfl, (fun e he => by simp at he), (fun k => by simp), (by decide), (by rfl), rfl⟩
theorem pe_scK {elt tg iter : Expr} {ifs : List Expr} {scope : Scope} {own : List (PySem.Str × Nat)} {pos : Pos} {wi : TI} {g : TG} {tt : TT} {te : TE} (hc : X.calm = true) (hN : X.N.Nodup) (hi : PI X tg iter wi) (ok : BlkOk X.N X.env.scope scope own)
    (hg : ∀ (s : Shared) (H : Hp) (C : Addr) (cl : List (PySem.Str × Addr)) (fp : List Addr), PG (X.blk s H scope (compEnvC scope cl C X.env) fp) tg g)
    (ht : ∀ (s : Shared) (H : Hp) (C : Addr) (cl : List (PySem.Str × Addr)) (fp : List Addr), PTs (X.blk s H scope (compEnvC scope cl C X.env) fp) ifs tt)
    (he : ∀ (s : Shared) (H : Hp) (C : Addr) (cl : List (PySem.Str × Addr)) (fp : List Addr), PE (X.blk s H scope (compEnvC scope cl C X.env) fp) elt te) (hs : ∀ x, foldedSetIterable iter X.env x = pure x := by intro _; rfl) :
    PE X (.SetComp elt [⟨tg, iter, ifs, 0⟩] scope pos) (tScK X.prog X.w wi g tt te (own.map (·.2))) := by
  refine ⟨fun pins s σ H Q I hQ => ?_⟩
  have cells : ∀ y ∈ scope.names, y.2 = .free → ∃ c, X.env.cells.lookup y.1 = some c := fun y hy e =>
    (ok.free y hy e).elim (fun z => I.ok.has _ (.inl z)) (fun z => I.ok.has _ (.inr z))
  rw [eval_SetComp]
  refine wpAny_comprehension_free (use := none) rfl hs (closure_ok cells) ok.kind (fun y hy e => by rw [ok.uniq y hy, e]) (thn (hi.run pins s σ H _ I hQ) fun xv sa ha => thn ha fun itv sb hb => ?_)
  obtain ⟨it, fp, tn, J, Hb, rfl, Ib, T, stb, fb, qb⟩ := hb
  refine newSet_ok (newEnv_comp ?_)
  obtain ⟨D, eD⟩ : ∃ D, D = sb.heap.objs.size := ⟨_, rfl⟩
  have nD : Hb D = none := Ib.hok.fresh (by rw [eD]; exact Nat.le_refl _)
  obtain ⟨W, ⟨m0, w0⟩, turns⟩ := qb D nD
  obtain ⟨sc, esc⟩ : ∃ sc : Shared, sc = { sb with heap := sb.heap.push { cls := .type "set", dict := none, data := .set #[] 0 (.fresh 0 0 (!X.w.params.followText "set-order")) } } := ⟨_, rfl⟩
  have hsc : sc.heap = sb.heap.push { cls := .type "set", dict := none, data := .set #[] 0 (.fresh 0 0 (!X.w.params.followText "set-order")) } := by rw [esc]
  have Ic : Inv X pins σ (upd Hb D (L2.SetK X.prog X.w D (fun _ => false) 0)) sc := by
    subst esc eD
    exact Ib.laid (t' := sb.toks) (fun b o e => Heap.get?_push_of_some _ e) (Nat.le_refl _) (L2.setK_new emptyK)
  have old : ∀ b ∈ fp, b < sb.heap.objs.size := fun b hb => by
    obtain ⟨o, e, _⟩ := T.obj _ _ stb b hb
    exact Heap.lt_size e
  have fc : ∀ b ∈ fp, FpOk X pins (upd Hb D (L2.SetK X.prog X.w D (fun _ => false) 0)) b ∧ b < sc.heap.objs.size := fun b hb => by
    have lt := old b hb
    refine ⟨⟨?_, (fb b hb).2⟩, by rw [hsc, Heap.size_push]; exact Nat.lt_succ_of_lt lt⟩
    rw [upd_ne (show b ≠ D by rw [eD]; exact Nat.ne_of_lt lt)]
    exact (fb b hb).1
  have stc : tn 0 sc.heap := T.keep _ _ _ stb fun b _ o e => by
    rw [hsc]
    exact Heap.get?_push_of_some _ e
  obtain ⟨Hc, eHc⟩ : ∃ Hc, Hc = upd Hb D (L2.SetK X.prog X.w D (fun _ => false) 0) := ⟨_, rfl⟩
  rw [← eHc] at Ic fc w0
  obtain ⟨cl, ecl⟩ : ∃ cl, cl = cellsFrom (sc.heap.objs.size + 1) scope.names (cloFrom X.env.cells scope.names []) := ⟨_, rfl⟩
  have Id := block_start Ic ok hN fc
  have pg := hg sc Hc sc.heap.objs.size cl fp
  have pt := ht sc Hc sc.heap.objs.size cl fp
  have pe := he sc Hc sc.heap.objs.size cl fp
  have goal : codeAny (model X.prog X.w) X.A (.compStart (.SetComp elt [⟨tg, iter, ifs, 0⟩] scope pos) 0 (.ref it) (.ref D) (compEnvC scope cl sc.heap.objs.size X.env)) (compPost (model X.prog X.w) X.A X.xe none (EP X pins σ Q) (.ref D) sc.heap.objs.size)
      { sc with heap := pushCells (sc.heap.push { cls := .type "dict", data := .dict #[] }) scope.names } := by
    rw [← ecl] at Id
    obtain ⟨ce, ece⟩ : ∃ ce, ce = compEnvC scope cl sc.heap.objs.size X.env := ⟨_, rfl⟩
    rw [← ece] at Id pg pt pe ⊢
    have loc : ce.locals = sc.heap.objs.size := by rw [ece]; rfl
    obtain ⟨sd, esd⟩ : ∃ sd : Shared, sd = { sc with heap := pushCells (sc.heap.push { cls := .type "dict", data := .dict #[] }) scope.names } := ⟨_, rfl⟩
    rw [← esd] at Id ⊢
    have std : tn 0 sd.heap := T.keep _ _ _ stc fun b _ o e => by
      rw [esd]
      exact pushCells_keeps _ _ _ _ (Heap.get?_push_of_some _ e)
    have inB : ∀ {τ : L2.St} {G : Hp} {z : Shared}, Inv (X.blk sc Hc scope ce fp) [] τ G z → (∀ b ∈ fp, G b = none) → ∀ b ∈ fp, FpOk (X.blk sc Hc scope ce fp) [] G b := fun {τ G z} I' hn b hb =>
      ⟨hn b hb, (I'.ok.exf b hb).1, I'.ok.exfs b hb, .inl hb, fun x c e => (I'.ok.exf b hb).2 x c e, fun p hp => absurd (show p ∈ ([] : List (Addr × Obj)) ++ [] from hp) (by simp)⟩
    have main : codeAny (model X.prog X.w) X.A (.compLoop (.SetComp elt [⟨tg, iter, ifs, 0⟩] scope pos) 0 (.ref it) (.ref D) ce) (compPost (model X.prog X.w) X.A X.xe none (EP X pins σ Q) (.ref D) sc.heap.objs.size) sd := by
      refine compLoopS_any (fun n z => ∃ i G, Inv (X.blk sc Hc scope ce fp) [] (wipe σ (own.map (·.2))) G z ∧ tn i z.heap ∧ (∀ b ∈ fp, G b = none) ∧ W i n G) ?_ m0 ⟨0, Hc, Id, std, fun b hb => (fc b hb).1.1, w0⟩
      rintro n z ⟨i, G, IG, stG, nG, wG⟩
      rcases turns i n G wG with ⟨stop, qq⟩ | ⟨go, Nx, hNx, step⟩
      · refine thnF (T.done (X.blk sc Hc scope ce fp) rfl rfl rfl hc i [] z _ G (fun _ _ => False) IG (inB IG nG) stG stop) fun r z2 ⟨hr, I2⟩ => ?_
        subst hr
        have I3 : Inv X pins σ G z2 := Ic.call' (ch := fp) I2.os I2.base I2.hok I2.bare fun b hb => ⟨(fc b hb).1.2.2.2.1, (fc b hb).1.2.1, (fc b hb).1.2.2.2.2.1, (fc b hb).1.2.2.2.2.2⟩
        have nC : G sc.heap.objs.size = none := by
          have z : G ce.locals = none := I2.free
          rwa [loc] at z
        obtain ⟨mm, hm, _⟩ := I2.loc
        have hm : z2.heap.Ns ce.locals mm := hm
        rw [loc] at hm
        refine ⟨mm, hm, fun h'' up => ?_⟩
        obtain ⟨f0, f1, f2, f3, f4, f5⟩ := Ic.fpOk (Nat.le_refl _) nC
        exact ⟨.ref D, G, I3.turned (t' := z2.toks) (fun b o hb e => (up.2 b hb).trans e) f0 f1 f3 f4 f5, rfl, qq⟩
      · refine thnF (T.item (X.blk sc Hc scope ce fp) rfl rfl rfl hc i [] z _ G (fun _ _ => False) IG (inB IG nG) stG go) fun r z2 ⟨u, hr, h2⟩ => ?_
        subst hr
        refine thnF h2 fun _ z3 ⟨x, G3, I3, r3, y3, st3, n3⟩ => ?_
        refine thnF (pg.run _ z3 _ G3 x u _ (I3.pinned (inB I3 n3) (T.obj _ _ st3)) r3 (step x G3 y3)) fun _ z4 ⟨σ4, G4, I4, hw, q4⟩ => ?_
        refine thnF (pt.run _ z4 σ4 G4 _ I4 q4) fun b z5 ⟨G5, I5, q5⟩ => ?_
        have back : ∀ {z' : Shared} {G' : Hp}, Inv (X.blk sc Hc scope ce fp) ([] ++ pinsAt fp z3.heap) σ4 G' z' → Nx G' → ∃ m, m < n ∧ ∃ i G, Inv (X.blk sc Hc scope ce fp) [] (wipe σ (own.map (·.2))) G z' ∧ tn i z'.heap ∧ (∀ b ∈ fp, G b = none) ∧ W i m G := fun {z' G'} I' nx => by
          obtain ⟨m', lt, w'⟩ := hNx G' nx
          have at' : ∀ b ∈ fp, ∀ o, z3.heap.get? b = some o → z'.heap.get? b = some o ∧ G' b = none := fun b hb o e =>
            have p := I'.pin (b, o) (List.mem_append_right _ (List.mem_append_right _ (mem_pinsAt hb e)))
            ⟨p.1, p.2.1⟩
          refine ⟨m', lt, i + 1, G', (I'.unpinned (pins := [])).weak (by rw [← hw, wipe_length]) (fun j v e => ?_), T.keep _ _ _ st3 fun b hb o e => (at' b hb o e).1, fun b hb => ?_, w'⟩
          · rw [← hw] at e
            exact (wipe_some e).1
          · obtain ⟨o, e, _⟩ := T.obj _ _ st3 b hb
            exact (at' b hb o e).2
        by_cases eb : b = true
        · subst eb
          simp only [if_true] at q5 ⊢
          refine thnF (pe.run _ z5 σ4 G5 _ I5 q5) fun v z6 ⟨yv, G6, I6, r6, c, S, k, ey, h6, room, nx⟩ => ?_
          subst ey
          exact thnF (mt_saddK (X := X.blk sc Hc scope ce fp) _ z6 σ4 G6 (.ref D) [kV c] (.ref D) [v] (fun _ G' => Nx G') I6 rfl (.cons r6 .nil) ⟨D, c, S, k, rfl, rfl, h6, room, nx⟩) fun _ z7 ⟨_, G7, I7, _, nx7⟩ => back I7 nx7
        · have eb' : b = false := by simpa using eb
          subst eb'
          simp only [Bool.false_eq_true, if_false] at q5 ⊢
          exact back I5 q5
    exact codeAny_compStart_set main (T.self X.A 0 _ _ _ std main)
  rw [ecl] at goal
  subst esc eD
  exact goal
end
end Kx
namespace Kx
open PySem PySem.Spec PyProof.Rows L2 PpSet
section
variable {X : Cx}
def rLenSK (P : Program) (w : World) : List V → Hp → VK → Prop := fun xs H Q => ∃ (a : Addr) (S : Key → Bool) (n : Nat), xs = [.ref a] ∧ H a = some (L2.SetK P w a S n) ∧ Q (.int (n : Nat)) H
theorem call_lenSK : CallR X (.builtin "len") (rLenSK X.prog X.w) := by
  intro pins s σ H xs us Q I rv h
  obtain ⟨a, S, n, rfl, ha, q⟩ := h
  obtain ⟨u, rfl, ru⟩ := rv.one
  cases ru
  obtain ⟨o, es, ep, t, ho, hex, hd, _, _, few, hf, hn⟩ := L2.setK_get I ha
  have e4 : scanBound = 4096 := rfl
  exact call_len_set ho hex hd hf (by omega) ⟨.int (n : Nat), H, I.tok _, ⟨_, by rw [hn]⟩, q⟩
end
/-- a set comprehension over the keys of a locked dict -/
theorem sck_keys {P : Program} {w : World} {d : Addr} {o : Obj} {kvs : List (Key × V)} {g : TG} {tt : TT} {te : TE} {vs : List Nat} {σ : L2.St} {H1 : Hp} {D : Addr} {Qd : Hp → Prop} (Pv : Nat → Hp → Prop) (h0 : Pv 0 (upd H1 D (L2.SetK P w D (fun _ => false) 0)))
    (hl : ∀ i H, Pv i H → H d = some (.frz o (.dK kvs))) (hs : ∀ (i : Nat) k v H, kvs[i]? = some (k, v) → Pv i H → g (kV k) (wipe σ vs) H fun σ2 H2 => wipe σ2 vs = wipe σ vs ∧ tt σ2 H2 fun b H3 => if b = true then TurnK P w D te σ2 H3 (Pv (i + 1)) else Pv (i + 1) H3)
    (hd : ∀ H, Pv kvs.length H → Qd H) : ∃ W : Nat → Nat → Hp → Prop, (∃ m, W 0 m (upd H1 D (L2.SetK P w D (fun _ => false) 0))) ∧ ∀ i m G, W i m G → ((Itk d o kvs).stop i G ∧ Qd G) ∨
    ((Itk d o kvs).go i G ∧ ∃ Nx : Hp → Prop, (∀ G', Nx G' → ∃ m', m' < m ∧ W (i + 1) m' G') ∧ ∀ x G', (Itk d o kvs).yld i G x G' → g x (wipe σ vs) G' fun σ2 G2 => wipe σ2 vs = wipe σ vs ∧ tt σ2 G2 fun b G3 => if b = true then TurnK P w D te σ2 G3 Nx else Nx G3) := by
  refine ⟨fun i m H => m = kvs.length - i ∧ i ≤ kvs.length ∧ Pv i H, ⟨_, rfl, Nat.zero_le _, h0⟩, ?_⟩
  rintro i m G ⟨rfl, le, p⟩
  have f := hl i G p
  by_cases lt : i < kvs.length
  · refine .inr ⟨⟨f, lt⟩, Pv (i + 1), fun G' p' => ⟨kvs.length - (i + 1), by omega, rfl, lt, p'⟩, fun x G' ⟨e, k, v, hk, ex⟩ => ?_⟩
    subst e ex
    exact hs i k v _ hk p
  · have e : i = kvs.length := by omega
    subst e
    exact .inl ⟨⟨f, Nat.le_refl _⟩, hd G p⟩
/-- a list comprehension over the keys of a locked dict -/
theorem lc_keys {d : Addr} {o : Obj} {kvs : List (Key × V)} {g : TG} {tt : TT} {te : TE} {vs : List Nat} {σ : L2.St} {H1 : Hp} {D : Addr} {Qd : Hp → Prop} (Pv : Nat → Hp → Prop) (h0 : Pv 0 (upd H1 D (.lst [])))
    (hl : ∀ i H, Pv i H → H d = some (.frz o (.dK kvs))) (hs : ∀ (i : Nat) k v H, kvs[i]? = some (k, v) → Pv i H → g (kV k) (wipe σ vs) H fun σ2 H2 => wipe σ2 vs = wipe σ vs ∧ tt σ2 H2 fun b H3 =>
      if b = true then te σ2 H3 fun y H4 => ∃ acc, H4 D = some (.lst acc) ∧ acc.length < sizeLine ∧ Pv (i + 1) (upd H4 D (.lst (acc ++ [y]))) else Pv (i + 1) H3)
    (hd : ∀ H, Pv kvs.length H → Qd H) : ∃ W : Nat → Nat → Hp → Prop, (∃ m, W 0 m (upd H1 D (.lst []))) ∧ ∀ i m G, W i m G → ((Itk d o kvs).stop i G ∧ Qd G) ∨
    ((Itk d o kvs).go i G ∧ ∃ Nx : Hp → Prop, (∀ G', Nx G' → ∃ m', m' < m ∧ W (i + 1) m' G') ∧ ∀ x G', (Itk d o kvs).yld i G x G' → g x (wipe σ vs) G' fun σ2 G2 => wipe σ2 vs = wipe σ vs ∧ tt σ2 G2 fun b G3 =>
      if b = true then te σ2 G3 fun y G4 => ∃ acc, G4 D = some (.lst acc) ∧ acc.length < sizeLine ∧ Nx (upd G4 D (.lst (acc ++ [y]))) else Nx G3) := by
  refine ⟨fun i m H => m = kvs.length - i ∧ i ≤ kvs.length ∧ Pv i H, ⟨_, rfl, Nat.zero_le _, h0⟩, ?_⟩
  rintro i m G ⟨rfl, le, p⟩
  have f := hl i G p
  by_cases lt : i < kvs.length
  · refine .inr ⟨⟨f, lt⟩, Pv (i + 1), fun G' p' => ⟨kvs.length - (i + 1), by omega, rfl, lt, p'⟩, fun x G' ⟨e, k, v, hk, ex⟩ => ?_⟩
    subst e ex
    exact hs i k v _ hk p
  · have e : i = kvs.length := by omega
    subst e
    exact .inl ⟨⟨f, Nat.le_refl _⟩, hd G p⟩
end Kx
/-! Defs with str.replace; defs that raise. -/
namespace Kx
open PySem PySem.Spec PyProof.Rows L2 CwR
section
variable {X : Cx} {o e : Expr} {to te : TE} {pos : Pos}
theorem pst_set {i : Nat} {x : Str} {pos' : Pos} (hN : X.N.Nodup) (hi : X.N[i]? = some x) (hx : Loc X.env.scope x) (he : PET X e te) (hs : swapsWith e (some (.Name x pos')) pos.line X.env = pure false := by rfl) (hf : X.fn x = true ∨ X.env.scope.names.lookup x = some .local := by first | exact .inl rfl | exact .inr rfl | assumption) :
    PST X (.Assign [.Name x pos'] e pos) (tAsg te (gName i)) := by
  intro pins s σ H D h0 I h
  refine wpAny_Assign_Name (thn (he pins s σ H _ h0 I h) fun v s1 ⟨y, H1, I1, r1, q1⟩ => ?_) hs
  exact store_ok I1 hN hi hx r1 (fun s2 I2 => ⟨_, H1, I2, q1⟩) hf
theorem pet_m0 {id : String} {name : Str} {apos pos : Pos} {r : V → List V → Hp → VK → Prop} (slot : Slot "str" name id) (ty : typeOf (.builtin id) = pure (.type "method_descriptor")) (rule : MtR X id r) (ho : PET X o to)
    (hbase : attributeBase o name X.env (eval o X.env) = eval o X.env := by rfl) (hline : (apos.endLine == pos.line) = true := by rfl) : PET X (.Call (.Attribute o name apos) [] [] pos) (tM0 r to) := by
  intro pins s σ H Q h0 I h
  refine PySem.Call_method0 hbase hline (thn (ho pins s σ H _ h0 I h) fun v s1 ⟨x, H1, I1, r1, q1⟩ => ?_)
  obtain ⟨⟨a, rfl⟩, q1⟩ := q1
  obtain ⟨t, rfl⟩ := _root_.id r1
  exact ⟨"str", _, F.plainAttrs_str, slot, ty, typeIs_str _ _ _, (fun _ e => nomatch e), Calls.callWith_builtin rfl (PySem.evalArgs_none (rule pins s1 σ H1 _ [] _ [] Q I1 r1 .nil q1))⟩
theorem pet_words {apos pos : Pos} (ho : PET X o to) (hbase : attributeBase o "split" X.env (eval o X.env) = eval o X.env := by rfl) (hline : (apos.endLine == pos.line) = true := by rfl) :
    PET X (.Call (.Attribute o "split" apos) [] [] pos) (tM0 (fun x xs H Q => ∃ a, x = .str a ∧ xs = [] ∧ a.length + 2 ≤ sizeLine ∧ rNewStrs (Txt.words a) H Q) to) :=
  pet_m0 F.slot_str_split F.type_str_split mt_words ho hbase hline
end
section
variable {P : Program} {w : World} {K : PySem.W.Frag} {mg : Str → Option Value} {base : Heap}
/-- a def in which a token is out from the beginning on (it has a parameter) -/
theorem okT {x qual : Str} {st : Stmt} {f : Addr} {fd : FuncData} {N ps : List Str} {k : Nat} {sp : Sp} (F : Fun K x qual st f fd) (S : FnScope N ps (defScope st)) (hnc : ∀ y ∈ (defScope st).names, y.2 ≠ .cell) (hps : 1 ≤ ps.length) (len : ∀ vs H Q E, sp vs H Q E → vs.length = ps.length)
    (hbody : ∀ (cdv : Value) (A : Around) (outer : List Env) (s : Shared) (H : Hp) (vs : List V) (Q : VK) (E : XK), Room k (A.deeper (envOfC qual (defScope st) s.heap.objs.size f cdv)) → sp vs H Q E →
      ∃ t, PSsT (cxOf CX0 P w K mg base N qual (defScope st) f cdv A outer s H E) (defBody st) t ∧ t { nx := fun _ H' => Q .non H', rt := Q } (start N vs) H) : FnOk P w K mg base CX0 (k + 1) f fd ps sp := by
  obtain ⟨oc, od, kV, doc, pm, an, cdv, ct, osl, rfl, lk, hcd⟩ := F.ex
  exact fn_ofT lk hcd S hnc hps len fun A outer s H vs Q E hr h => hbody cdv A outer s H vs Q E hr h
theorem exm_self {S : Addr} (h1 : PySem.W.subIn K (.ref S) (.type "BaseException") = some true) (h2 : PySem.W.isClsIn K S = true) (h3 : PySem.W.typeIn K (.ref S) = some (.type "type")) (h4 : PySem.W.subIn K (.ref S) (.ref S) = some true) :
    PySem.W.exmOne K (.ref S) (.ref S) = some true := by
  have e1 : (PySem.W.subIn K (.ref S) (.type "BaseException") == some true) = true := by rw [h1] <;> rfl
  have e2 : ((PySem.W.clsIn K S).isSome && PySem.W.typeIn K (.ref S) == some (.type "type")) = true := by
    have h2' : (PySem.W.clsIn K S).isSome = true := h2
    rw [h2', h3] <;> rfl
  show (if (PySem.W.subIn K (.ref S) (.type "BaseException") == some true) = true then (if ((PySem.W.clsIn K S).isSome && PySem.W.typeIn K (.ref S) == some (.type "type")) = true then PySem.W.subIn K (.ref S) (.ref S) else none) else none) = some true
  rw [if_pos e1, if_pos e2]
  exact h4
end
end Kx
/-! {None: v}: made, asked for its class, walked. -/
namespace Kx
open PySem PySem.Spec PyProof.Rows L2
/-- a dict with the one key None -/
def DNo (P : Program) (w : World) (a : Addr) : HO := .ext fun h => (a == sysModules) = false ∧ ∃ u, h.DictOf (noneKind P w) a [(none, u)]
theorem dno_ok {P : Program} {w : World} {H : Hp} {h : Heap} {a : Addr} {u : Value} (n : (a == sysModules) = false) (e : h.DictOf (noneKind P w) a [(none, u)]) : ObjOk P w H h a (DNo P w a) := by
  obtain ⟨o, es, ep, ho, r⟩ := id e
  refine ⟨⟨n, u, e⟩, ⟨o, ho⟩, fun h1 h2 ⟨n, u, o, es, ep, h, r⟩ k => ⟨n, u, o, es, ep, k _ h, r⟩⟩
theorem dno_ne {P : Program} {w : World} {a : Addr} {ps : Array Value} : DNo P w a ≠ .tbl ps := fun z => by
  unfold DNo at z
  cases z
def tDispN (P : Program) (w : World) (tv : TE) : TE := fun σ H Q => ∀ p, H p = none → tv σ (upd H p (.dK [])) fun _ H2 => H2 p = some (.dK []) ∧ Q (.ref p) (upd H2 p (DNo P w p))
theorem pe_dispN {X : Cx} {pos : Pos} {k v : Expr} {tv : TE} (hk : PE X k (tC .non)) (hv : PE X v tv) : PE X (.Dict [some k] [v] pos) (tDispN X.prog X.w tv) := by
  refine ⟨fun pins s σ H Q I q => ?_⟩
  have hn := I.hok.fresh (Nat.le_refl s.heap.objs.size)
  have I1 := I.laid (a := s.heap.objs.size) (o := .dK []) (h' := s.heap.push { cls := .type "dict", data := .dict #[] }) (t' := s.toks) (fun _ _ q => Heap.get?_push_of_some _ q) (Nat.le_refl _) (dk_empty s.heap I.big)
  refine wpAny_Dict_walk (knd := noneKind X.prog X.w) rfl rfl (by simp) (by simp) (pairTrees_cons_walk (thn (hk.run pins _ σ _ (fun x H1 => x = .non ∧ H1 = upd H s.heap.objs.size (.dK [])) I1 ⟨rfl, rfl⟩) ?_))
  rintro kv s1 ⟨x, H1, I2, rx, ex, eH⟩
  rw [eH] at I2
  subst ex
  obtain rfl : kv = Value.none := rx
  refine thn (hv.run pins s1 σ _ _ I2 (q _ hn)) ?_
  rintro vv s2 ⟨y, H2, I3, ry, hp, q2⟩
  refine pairTrees_nil_walk ?_
  obtain ⟨z, hd, vs0, r0, dd⟩ := dk_of I3.hok hp
  cases r0
  have dd0 : s2.heap.DictOf (noneKind X.prog X.w) s.heap.objs.size [] := by
    obtain ⟨o, es, ep, ho, hx, hdt, hk, hp, hnd⟩ := dd
    have e0 : es.toList = [] := by
      cases e : es.toList with
      | nil => rfl
      | cons a b => rw [e] at hp; cases hp
    refine ⟨o, es, ep, ho, hx, hdt, ?_, by rw [e0]; exact .nil, List.nodup_nil⟩
    intro e he
    have he : e ∈ es.toList := Array.mem_toList_iff.mpr he
    rw [e0] at he
    cases he
  refine ⟨[(none, vv)], ?_, dd0, fun h' dd' hs => ⟨.ref s.heap.objs.size, _, ?_, rfl, q2⟩⟩
  · exact ⟨rfl, rfl, trivial⟩
  have he : ∃ q, h'.get? s.heap.objs.size = some q := let ⟨q, _, _, hq, _⟩ := dd'; ⟨q, hq⟩
  exact d_write I3 (by rw [hp]; exact True.intro) hs he (dno_ok hd dd')
/-- its one key, None -/
def ItN (P : Program) (w : World) (d : Addr) (o : Obj) : It :=
  ⟨fun i H => H d = some (.frz o (DNo P w d)) ∧ i < 1, fun i H x H' => H' = H ∧ x = .non, fun i H => H d = some (.frz o (DNo P w d)) ∧ 1 ≤ i⟩
section
variable {P : Program} {w : World} {K : PySem.W.Frag} {tg : Expr} {d : Addr} {o : Obj} {es : Array DictEntry} {ep : Nat}
theorem Inv.frzN {X : Cx} {pins : List (Addr × Obj)} {σ : L2.St} {H : Hp} {s : Shared} (I : Inv X pins σ H s) (h : H d = some (.frz o (DNo X.prog X.w d))) :
    (d == sysModules) = false ∧ s.heap.get? d = some o ∧ o.ExactDict ∧ ∃ (es : Array DictEntry) (ep : Nat), o.data = .dict es ep ∧ es.size = 1 ∧ ∃ en : DictEntry, es[0]? = some en ∧ en.key = .none := by
  obtain ⟨hd, ⟨ns, u, o', es, ep, ho, hx, hdt, _, pr, _⟩, _⟩ := I.hok d _ h
  rw [hd] at ho
  cases ho
  cases e : es.toList with
  | nil => rw [e] at pr; cases pr
  | cons a l =>
    rw [e] at pr
    cases pr with
    | cons p1 p2 pt =>
      cases pt
      refine ⟨ns, hd, hx, es, ep, hdt, by rw [← Array.length_toList, e]; rfl, a, by rw [← Array.getElem?_toList, e]; rfl, ?_⟩
      exact nk_none p1
theorem turn_keysN (it : Addr) (hod : o.data = .dict es ep) : Turn P w K tg (ItN P w d o) [it] it (fun i h => h.IsKeyIter it d i 1 ep) where
  mem := by simp
  obj := fun i h st b hb => by
    have e : b = it := by simpa using hb
    subst e
    obtain ⟨oi, e, c, dd⟩ := st
    exact ⟨oi, e, fun v z => by rw [dd] at z; cases z⟩
  keep := fun i h h' st k => st.at fun oi e => k it (by simp) oi e
  item := by
    intro X hP hw hK hc i pins s σ H E I hf st hg
    subst hP hw hK
    obtain ⟨hd, hi⟩ := hg
    obtain rfl : i = 0 := by omega
    obtain ⟨f0, f1, f2, f3, f4, f5⟩ := hf it (by simp)
    obtain ⟨hs, hgd, hx, es', ep', hdt, hsz, en, hen, hkey⟩ := Inv.frzN I hd
    obtain ⟨rfl, rfl⟩ := dict_ep hod hdt
    refine next_key_item st hgd hdt hsz hen fun h' st' sb => ?_
    have I1 : Inv X pins σ H { s with heap := h' } := I.turned (t' := s.toks) (fun b ob hb e => (sb.2 b hb).trans e) f0 f1 f3 f4 f5
    obtain ⟨oi, e, c, dd⟩ := id st'
    exact ⟨en.key, rfl, go_of (s := { s with heap := h' }) e c dd (by decide) ⟨.non, H, I1, hkey, ⟨rfl, rfl⟩, st', fun b hb => (hf b hb).1⟩⟩
  done := by
    intro X hP hw hK hc i pins s σ H E I hf st hg
    subst hP hw hK
    obtain ⟨hd, hi⟩ := hg
    obtain ⟨f0, f1, f2, f3, f4, f5⟩ := hf it (by simp)
    obtain ⟨hs, hgd, hx, es', ep', hdt, hsz, en, hen, hkey⟩ := Inv.frzN I hd
    obtain ⟨rfl, rfl⟩ := dict_ep hod hdt
    exact next_key_end (I.ok.hd hc) st hgd hdt hsz hi fun h' eb => ⟨rfl, I.turned (t' := s.toks) (fun b ob hb e => eb b ob hb e) f0 f1 f3 f4 f5⟩
  self := fun A i s Q E st h => by
    refine wpAny_pyIter_slot st.typeIs F.slot_dict_keyiterator_iter (wpAny_call_entry F.slot_dict_keyiterator_iter st.typeIs F.entry_dict_keyiterator_iter ?_ (F.args_dict_keyiterator_iter_1 _))
    show wpAny _ _ (ret (.ref it)) _ _ s
    exact wpAny_pure ⟨_, rfl, "dict_keyiterator", _, st.typeIs, F.slot_dict_keyiterator_next.lookup, h⟩
theorem walk_keysN : Walk (ItN P w d o) 1 (fun H => H d = some (.frz o (DNo P w d))) (fun i H x H' => H' = H ∧ x = .non) :=
  ⟨fun _ _ hi q => ⟨q, hi⟩, fun _ q => ⟨q, Nat.le_refl _⟩, fun _ _ _ _ _ _ y => y⟩
end
/-- the keys of the locked dict, which may be the one with None -/
def iKeysN (P : Program) (w : World) (td : TE) : TI := fun σ H R => td σ H fun x H1 => ∃ d o, x = .ref d ∧ ((∃ kvs, H1 d = some (.frz o (.dK kvs)) ∧ R (Itk d o kvs) H1) ∨ (H1 d = some (.frz o (DNo P w d)) ∧ R (ItN P w d o) H1))
theorem pi_keysN {X : Cx} {tg e : Expr} {td : TE} (he : PE X e td) : PI X tg e (iKeysN X.prog X.w td) := by
  refine ⟨fun pins s σ H R I h => ?_⟩
  refine thn (he.run pins s σ H _ I h) fun u s1 ⟨x, H1, I1, rx, d, o, ex, q⟩ => ?_
  subst ex
  obtain rfl : u = Value.ref d := rx
  rcases q with ⟨kvs, hd, q⟩ | ⟨hd, q⟩
  · obtain ⟨hs, hgd, hx, es, ep, vs, hdt, hsz, kv, hm⟩ := I1.frzK hd
    refine iter_keys hs hgd hx hdt (pi_one (tk := s1.toks) I1 _ (turn_keys _ hdt) ⟨_, Heap.get?_push_size _ rfl, rfl, ?_⟩ q)
    rw [hsz] <;> rfl
  · obtain ⟨hs, hgd, hx, es, ep, hdt, hsz, en⟩ := Inv.frzN I1 hd
    refine iter_keys hs hgd hx hdt (pi_one (tk := s1.toks) I1 _ (turn_keysN _ hdt) ⟨_, Heap.get?_push_size _ rfl, rfl, ?_⟩ q)
    rw [hsz] <;> rfl
/-- isinstance(x, C), x data or such a dict -/
def rIsiN (P : Program) (w : World) (K : PySem.W.Frag) : List V → Hp → VK → Prop := fun xs H Q => rIsi K xs H Q ∨ ∃ (a : Addr) (c : V) (u : Value) (b : Bool), xs = [.ref a, c] ∧ H a = some (DNo P w a) ∧ ClsV c u ∧ PySem.W.kitOne K (.type "dict") u = some b ∧ Q (.bl b) H
theorem call_isiN {X : Cx} : CallR X (.builtin "isinstance") (rIsiN X.prog X.w X.K) := by
  intro pins s σ H xs us Q I r h
  rcases h with h | ⟨a, c, u, b, rfl, ha, k, e, q⟩
  · exact call_isi pins s σ H xs us Q I r h
  obtain ⟨u1, u2, rfl, r1, r2⟩ := vals2 r
  have e2 := k.eq r2
  subst e2
  cases r1
  obtain ⟨⟨_, _, o, es, ep, ho, hx, hdt, _⟩, _⟩ := I.hok a _ ha
  exact PySem.W.kia_one PySem.W.kitx_dict I.kIn ⟨o, ho, hx.1⟩ e (fun z => nomatch z) fun tk => ⟨.bl b, H, I.tok tk, rfl, q⟩
end Kx
/-! What the functions raise: terms, names. -/
namespace K11
open PySem PySem.Spec PyProof.Rows L2 Kx
section
variable {P : Program} {w : World} {K : PySem.W.Frag} {mg : Str → Option Value} {base : Heap}
def spCk (K : PySem.W.Frag) (C : Addr) : Sp := fun vs H Q E => ∃ (x : V) (d : PyData), vs = [x] ∧ Dz K H x d ∧ (termD d = true → ∀ H', Same H H' → Q .non H') ∧ (termD d = false → ∀ H', Same H H' → E (.ref C) none H')
theorem ok_ck (T : Tx K mg) : FnOk P w K mg base (L2.CX P w) 5 T.acheck_term T.dcheck_term ["value"] (spCk K T.CInvalidTerm) := by
  have nd := sc_check_term.nd
  have G := ok_term (P := P) (w := w) (base := base) T
  refine T.fcheck_term.okX sc_check_term (fun vs H Q E h => ?_) (fun cdv A outer s H vs Q E hr h => ?_)
  · obtain ⟨x, d, rfl, _⟩ := h
    rfl
  · obtain ⟨x, d, rfl, hx, q1, q0⟩ := h
    refine ⟨_, (pss_one (ps_if (pt_not (pt_val (pe_call G (hr.mono (by omega)) (by rfl) T.gis_term T.fis_term.kp T.nis_term .nil pass0 (pa_cons (pv 0) pa_nil)))) (pss_one (ps_raise rfl (takes_of rfl rfl rfl rfl) (pmk_own PySem.F.excBase_ValueError T.xInvalidTerm T.gInvalidTerm T.kInvalidTerm (raises_own T.bInvalidTerm T.tInvalidTerm) (by rfl)))) pss_nil)), ?_⟩
    refine ⟨_, rfl, x, d, rfl, hx, fun H' sm => ⟨_, rfl, ?_⟩⟩
    cases t : termD d with
    | false => exact iteT (q0 t H' sm)
    | true => exact iteF (q1 t H' sm)
end
/-- a list of texts that holds the same as l, each once -/
theorem once_len : ∀ (l L : List Str), L.Nodup → (∀ z, z ∈ L ↔ z ∈ l) → L.length ≤ l.length ∧ (L.length = l.length ↔ l.Nodup)
  | [], L, _, h => by
    have : L = [] := List.eq_nil_iff_forall_not_mem.mpr fun z hz => by simpa using (h z).mp hz
    subst this
    simp
  | a :: r, L, nd, h => by
    by_cases ar : a ∈ r
    · have e := once_len r L nd (fun z => by
        rw [h z, List.mem_cons]
        exact ⟨fun x => x.elim (fun e => by rw [e]; exact ar) id, .inr⟩)
      rw [List.length_cons]
      refine ⟨by omega, fun x => by omega, fun x => absurd ar (List.nodup_cons.mp x).1⟩
    · have aL : a ∈ L := (h a).mpr List.mem_cons_self
      have e := once_len r (L.erase a) (nd.erase a) (fun z => by
        rw [nd.mem_erase_iff, h z, List.mem_cons]
        constructor
        · rintro ⟨n, x | x⟩
          · exact absurd x n
          · exact x
        · exact fun x => ⟨fun y => ar (y ▸ x), .inr x⟩)
      rw [List.length_erase_of_mem aL] at e
      have pos : 0 < L.length := List.length_pos_of_mem aL
      rw [List.length_cons, List.nodup_cons]
      refine ⟨by omega, fun x => ⟨ar, e.2.mp (by omega)⟩, fun x => ?_⟩
      have := e.2.mpr x.2
      omega
end K11
/-! sorted(d), d with tuples for keys; data < data. -/
namespace Kx
open PySem PySem.Spec PyProof.Rows L2
def tupD (k : List Key) : PyData := .tuple (k.map keyD)
theorem dx_keys {K : PySem.W.Frag} {H : Hp} : ∀ ks : List Key, DxAll K H (ks.map kV) (ks.map keyD)
  | [] => .nil
  | .inl i :: ks => .cons (.int i) (dx_keys ks)
  | .inr x :: ks => .cons (.str x) (dx_keys ks)
theorem depth_keys : ∀ ks : List Key, PyData.depthAll (ks.map keyD) ≤ 1
  | [] => by simp [PyData.depthAll]
  | .inl i :: ks => by
    have := depth_keys ks
    simp only [List.map_cons, PyData.depthAll, keyD, PyData.depth]
    omega
  | .inr x :: ks => by
    have := depth_keys ks
    simp only [List.map_cons, PyData.depthAll, keyD, PyData.depth]
    omega
theorem reads_keys {h : Heap} : ∀ (ks : List Key) (us : List Value) (as : List Addr), ReadsAll h us (ks.map keyD) as → as = []
  | [], _, _, r => by cases r; rfl
  | .inl i :: ks, _, _, r => by
    cases r with
    | cons a b =>
      cases a
      rw [reads_keys ks _ _ b]
      rfl
  | .inr x :: ks, _, _, r => by
    cases r with
    | cons a b =>
      cases a
      rw [reads_keys ks _ _ b]
      rfl
theorem readsAll_push {h : Heap} {o : Obj} : ∀ (ks : List Key) (us : List Value), ReadsAll h us (ks.map keyD) [] → ReadsAll (h.push o) us (ks.map keyD) []
  | [], _, r => by cases r; exact .nil
  | k :: ks, us, r => PyProof.Rows.ReadsAll.keeps (fun _ _ e => Heap.get?_push_of_some _ e) r
/-- its keys in their order, each its own tuple -/
abbrev KItem := Addr × List Key
def rSortKT (K : PySem.W.Frag) : List V → Hp → VK → Prop := fun xs H Q => ∃ (a : Addr) (kvs : List (List Key × V)), xs = [.ref a] ∧ H a = some (.dT kvs) ∧ PySem.W.AllAlike (kvs.map fun p => tupD p.1) ∧ (∀ p, p ∈ kvs → p.1 ≠ []) ∧
  ∀ (zs : List KItem) p, H p = none → zs.map Prod.snd = kvs.map Prod.fst → (∀ z, z ∈ zs → H z.1 = some (.tup (z.2.map kV))) → Q (.ref p) (upd H p (.lst ((zs.mergeSort (PySem.W.dataLe false fun z => tupD z.2)).map fun z => V.ref z.1)))
section
variable {X : Cx}
theorem cr_sortedKT (hc : X.calm = true) (hu : X.A.units + 64 < cLine) : CallR X (.builtin "sorted") (rSortKT X.K) := by
  intro pins s σ H xs us Q I r h
  obtain ⟨d, kvs, rfl, hd, al, nn, q⟩ := h
  obtain ⟨u, rfl, rx⟩ := r.one
  cases rx
  obtain ⟨z, hs, ks, pr, o, es, ep, ho, hx, hdt, he, hn⟩ := (show ObjOk X.prog X.w H s.heap d (.dT kvs) from I.hok d _ hd)
  have l1 : es.size = ks.length := size_of_entries he
  have l2 : kvs.length = ks.length := Paired.length pr
  refine Calls.call_function_entry PyProof.Rows.kind_sorted PyProof.Rows.plain_sorted PyProof.Rows.entry_sorted (PyProof.Rows.args_sorted1 _) ?_
  unfold Builtin.«sorted»
  refine wpAny_bind (m := checkCount "sorted" 1 1 _) (wpAny_pure ?_)
  refine wpAny_bind (PySem.W.kdu_collect (A := X.A.in1) (kdl_raw hs hx hdt) (I.ok.hd hc) ho (by omega) fun h' tk acc hk it => ?_)
  have ea : acc.toList = ks.map fun x => Value.ref x.2.1 := by
    have hl : acc.toList.length = ks.length := by rw [Array.length_toList, it.1]; exact l1
    apply List.ext_getElem?
    intro j
    rw [List.getElem?_map]
    cases hj : acc.toList[j]? with
    | none =>
      have h1 := List.getElem?_eq_none_iff.mp hj
      rw [List.getElem?_eq_none (by omega)]
      rfl
    | some v =>
      obtain ⟨en, hen, hv⟩ := it.2 j v (by rw [← Array.getElem?_toList]; exact hj)
      have qe := entry_at he j
      rw [hen] at qe
      cases hb : ks[j]? with
      | none =>
        rw [hb] at qe
        exact nomatch (show some en = none from qe)
      | some b =>
        rw [hb] at qe
        have e2 : en = entryOfKey (tupleKind (mixKind X.prog X.w)) b := Option.some.inj qe
        rw [hv, e2]
        rfl
  have I1 : Inv X pins σ H { s with heap := h', toks := tk } := I.kept hk
  have lz : ks.length ≤ sizeLine := by omega
  refine wpAny_bind (wpAny_newList ?_ (by rw [ea, List.length_map]; exact lz))
  have hoL : (h'.push (seqObj "list" acc.toList.toArray 0)).get? h'.objs.size = some (seqObj "list" acc.toList.toArray 0) := Heap.get?_push_size _ rfl
  show wpAny _ _ _ _ _ { s with heap := h'.push (seqObj "list" acc.toList.toArray 0), toks := tk }
  have I2 : Inv X pins σ H { s with heap := h'.push (seqObj "list" acc.toList.toArray 0), toks := tk } := I.kept fun b o e => Heap.get?_push_of_some _ (hk b o e)
  obtain ⟨zs, ezs⟩ : ∃ zs : List KItem, zs = ks.map fun x => ((x.2.1, x.1) : KItem) := ⟨_, rfl⟩
  have hz : ∀ z, z ∈ zs → H z.1 = some (.tup (z.2.map kV)) := by
    intro z hz
    rw [ezs] at hz
    obtain ⟨x, hx, rfl⟩ := List.mem_map.mp hz
    have : ∀ (kvs : List (List Key × V)) (ks : List (List Key × Addr × Value)), Paired (fun (p : List Key × V) (q : List Key × Addr × Value) => p.1 = q.1 ∧ H q.2.1 = some (.tup (p.1.map kV)) ∧ RelV p.2 q.2.2) kvs ks → ∀ x, x ∈ ks → H x.2.1 = some (.tup (x.1.map kV)) := by
      intro kvs ks h
      induction h with
      | nil => intro x hx; cases hx
      | cons r t ih =>
        intro x hx
        rcases List.mem_cons.mp hx with rfl | hx
        · rw [← r.1]
          exact r.2.1
        · exact ih x hx
    exact this kvs ks pr x hx
  have hzk : zs.map Prod.snd = kvs.map Prod.fst := by
    have : ∀ (kvs : List (List Key × V)) (ks : List (List Key × Addr × Value)), Paired (fun (p : List Key × V) (q : List Key × Addr × Value) => p.1 = q.1 ∧ H q.2.1 = some (.tup (p.1.map kV)) ∧ RelV p.2 q.2.2) kvs ks → (ks.map fun x => ((x.2.1, x.1) : KItem)).map Prod.snd = kvs.map Prod.fst := by
      intro kvs ks h
      induction h with
      | nil => rfl
      | cons r t ih =>
        rw [List.map_cons, List.map_cons, List.map_cons, ih, r.1]
    rw [ezs]
    exact this kvs ks pr
  have each : ∀ (zs : List KItem), (∀ z, z ∈ zs → H z.1 = some (.tup (z.2.map kV))) → PySem.W.EachIs (fun u (p : KItem) => u = Value.ref p.1 ∧ ∃ as, Reads (h'.push (seqObj "list" acc.toList.toArray 0)) u (tupD p.2) as ∧ h'.objs.size ∉ as) (zs.map fun z => Value.ref z.1) zs := by
    intro zs
    induction zs with
    | nil => intro _; exact .nil
    | cons p zs ih =>
      intro hz
      refine .cons ⟨rfl, ?_⟩ (ih fun q hq => hz q (List.mem_cons_of_mem _ hq))
      obtain ⟨as, rd, _⟩ := Dx.reads I1 (tupD p.2) (.ref p.1) (.ref p.1) (.tup (hz p List.mem_cons_self) (dx_keys p.2)) rfl
      cases rd with
      | tuple h1 h2 h3 h4 =>
        have z := reads_keys p.2 _ _ h4
        subst z
        exact ⟨[], Reads.tuple (Heap.get?_push_of_some _ h1) h2 h3 (readsAll_push p.2 _ h4), fun z => nomatch z⟩
  have e := each zs hz
  have ez : zs.map (fun z => Value.ref z.1) = acc.toList := by
    rw [ezs, ea, List.map_map]
    rfl
  rw [ez] at e
  have lzs : zs.length = ks.length := by rw [ezs]; exact List.length_map ..
  have alz : PySem.W.AllAlike (zs.map fun z => tupD z.2) := by
    have : zs.map (fun z => tupD z.2) = kvs.map fun p => tupD p.1 := by
      have e1 : (zs.map Prod.snd).map tupD = zs.map fun z => tupD z.2 := List.map_map ..
      have e2 : (kvs.map Prod.fst).map tupD = kvs.map fun p => tupD p.1 := List.map_map ..
      rw [← e1, ← e2, hzk]
    rw [this]
    exact al
  have so : PySem.W.Sortable (zs.map fun z => tupD z.2) := .inl fun dd hdd => by
    obtain ⟨z, hzz, rfl⟩ := List.mem_map.mp hdd
    have : z.2 ∈ kvs.map Prod.fst := by rw [← hzk]; exact List.mem_map.mpr ⟨z, hzz, rfl⟩
    obtain ⟨p, hp, e2⟩ := List.mem_map.mp this
    have nz : z.2 ≠ [] := by rw [← e2]; exact nn p hp
    cases hz2 : z.2 with
    | nil => exact absurd hz2 nz
    | cons a b => exact ⟨keyD a, b.map keyD, rfl⟩
  refine wpAny_bind (wpAny_holding (PySem.W.list_sort_data (enc := fun z : KItem => tupD z.2) hoL (e.mono fun _ _ h => h.1) (e.mono fun _ _ h => h.2) alz so (by rw [lzs]; exact lz) (fun b hb => ?_) fun out lo eo => ?_))
  · have := depth_keys b.2
    have e1 : (tupD b.2).depth ≤ 2 := by
      simp only [tupD, PyData.depth]
      omega
    show X.A.units + 1 + 1 + (tupD b.2).depth < cLine
    omega
  obtain ⟨e', he'⟩ := PyProof.Rows.sortedHeap_at (vs := acc.toList) (out := out.toArray) hoL
  have back : ∀ {out : List Value} {ys : List KItem}, PySem.W.EachIs (fun u (p : KItem) => u = Value.ref p.1) out ys → Vals (ys.map fun z => V.ref z.1) out := by
    intro out ys h
    induction h with
    | nil => exact .nil
    | cons h _ ih => exact .cons h ih
  have ln : ((zs.mergeSort (PySem.W.dataLe false fun z => tupD z.2)).map fun z => V.ref z.1).length ≤ sizeLine := by
    rw [List.length_map, List.length_mergeSort, lzs]
    exact lz
  refine wpAny_pure ⟨_, rfl, .ref h'.objs.size, upd H h'.objs.size (.lst ((zs.mergeSort (PySem.W.dataLe false fun z => tupD z.2)).map fun z => V.ref z.1)), I1.laid (t' := tk) (fun b u e => ?_) (Nat.le_refl _)
    (show ObjOk X.prog X.w _ _ _ (.lst _) from ⟨ln, out, e', back eo, he'⟩), rfl, q zs _ (I1.hok.fresh (Nat.le_refl _)) hzk hz⟩
  have hb : b < h'.objs.size := Heap.lt_size e
  rw [PyProof.Rows.sortedHeap_old (Nat.ne_of_lt hb) (by rw [size_push']; exact Nat.lt_succ_of_lt hb)]
  exact Heap.get?_push_of_some _ e
/-- data < data -/
def rLtD (K : PySem.W.Frag) : V → V → Hp → VK → Prop := fun x y H Q => ∃ da db, Dx K H x da ∧ Dx K H y db ∧ PySem.W.alike da db = true ∧ da ≠ .none ∧ da.depth ≤ 60 ∧ Q (.bl (PySem.W.dataLt da db)) H
theorem op_ltD (hu : X.A.units + 64 < cLine) : OpR X (compareOp .Lt) (rLtD X.K) := by
  intro pins s σ H x y u v Q I rx ry h
  obtain ⟨da, db, dx, dy, al, nn, dp, q⟩ := h
  obtain ⟨as, ra, _⟩ := Dx.reads I da x u dx rx
  obtain ⟨bs, rb, _⟩ := Dx.reads I db y v dy ry
  exact PySem.W.lt_data ra rb al nn (by omega) ⟨.bl _, H, I, rfl, q⟩
end
end Kx
/-! Couples. -/
namespace K11
open PySem PySem.Spec PyProof.Rows L2 Kx
def sidesOf : PyData → List PyData
  | .tuple [a, b] => [a, b]
  | _ => []
def coupleD : PyData → Bool
  | .tuple [_, _] => true
  | _ => false
def sidesD (ds : List PyData) : List PyData := ds.flatMap sidesOf
def couplesD (ds : List PyData) : Bool := ds.all coupleD && jointD (sidesD ds)
theorem couple_eq {d : PyData} (h : coupleD d = true) : ∃ a b, d = .tuple [a, b] := by
  match d, h with
  | .tuple [a, b], _ => exact ⟨a, b, rfl⟩
theorem dx_couple {K : PySem.W.Frag} {H : Hp} {v : V} {a b : PyData} (h : Dx K H v (.tuple [a, b])) : ∃ (p : Addr) (x y : V), v = .ref p ∧ H p = some (.tup [x, y]) ∧ Dx K H x a ∧ Dx K H y b := by
  cases h with
  | @tup p xs _ hp hx =>
    cases hx with
    | cons h1 h2 => cases h2 with
      | cons h2 h3 =>
        cases h3
        exact ⟨p, _, _, rfl, hp, h1, h2⟩
mutual
theorem wt_sz : ∀ d : PyData, wt d + 1 ≤ 3 * szD d
  | .none | .bool _ | .int _ | .str _ | .list _ | .dict _ => by simp [wt, szD]
  | .tuple ds => by
    have := wtA_sz ds
    simp only [wt, szD]
    omega
theorem wtA_sz : ∀ ds : List PyData, wtA ds ≤ 3 * szAll ds
  | [] => by simp [wtA, szAll]
  | d :: ds => by
    have := wt_sz d
    have := wtA_sz ds
    simp only [wtA, szAll]
    omega
end
theorem nm_len (d : PyData) (h : nameD d = true) : (nmC d).length ≤ 8 := by
  cases d with
  | str x =>
    have h : isNm x = true := h
    simp only [isNm, Bool.and_eq_true, decide_eq_true_eq] at h
    show x.cps.toList.length ≤ 8
    rw [Array.length_toList]
    exact h.1.2
  | _ => cases h
mutual
theorem tx_sz : ∀ d : PyData, formedD d = true → (tx d).length + 1 ≤ 11 * szD d
  | .none, h | .bool _, h | .int _, h | .str _, h | .list _, h | .dict _, h => by cases h
  | .tuple [], h => by cases h
  | .tuple (d :: []), h => by
    simp only [formedD, Bool.and_eq_true] at h
    have := nm_len d h.1.2
    simp only [tx, txA, List.append_nil, szD, szAll]
    have : szD d ≥ 1 := szD_pos d
    omega
  | .tuple (d :: e :: es), h => by
    simp only [formedD, formedAll, Bool.and_eq_true] at h
    have := nm_len d h.1.2
    have := tx_sz e h.2.1
    have := txM_sz es h.2.2
    have : szD d ≥ 1 := szD_pos d
    simp only [tx, txA, List.length_append, List.length_cons, List.length_nil, szD, szAll]
    omega
theorem txM_sz : ∀ ds : List PyData, formedAll ds = true → (txM ds).length ≤ 11 * szAll ds
  | [], _ => by simp [txM, szAll]
  | d :: ds, h => by
    simp only [formedAll, Bool.and_eq_true] at h
    have := tx_sz d h.1
    have := txM_sz ds h.2
    simp only [txM, List.length_append, List.length_cons, szAll]
    omega
end
/-- the text may be written -/
structure Wr (d : PyData) : Prop where
  f : formedD d = true
  w : wt d ≤ 100000
  t : (tx d).length ≤ 1000000
theorem wr_of {d : PyData} (h : formedD d = true) (z : szD d ≤ 10000) : Wr d := by
  have := wt_sz d
  have := tx_sz d h
  exact ⟨h, by omega, by omega⟩
section
variable {P : Program} {w : World} {K : PySem.W.Frag} {mg : Str → Option Value} {base : Heap}
def spKey (K : PySem.W.Frag) : Sp := fun vs H Q _ => ∃ (c : Addr) (x y : V) (a b : PyData), vs = [.ref c] ∧ H c = some (.tup [x, y]) ∧ Dx K H x a ∧ Dx K H y b ∧ Wr a ∧ Wr b ∧ ∀ p H', Same H H' → H p = none → H' p = some (.tup [.str (tS (tx a)), .str (tS (tx b))]) → Q (.ref p) H'
theorem ok_key (T : Tx K mg) : FnOk P w K mg base CX0 2 T.akey_of T.dkey_of ["couple"] (spKey K) := by
  have nd := sc_key_of.nd
  have G := ok_wr (P := P) (w := w) (base := base) T
  refine T.fkey_of.ok sc_key_of (fun vs H Q E h => ?_) (fun cdv A outer s H vs Q E hr h => ?_)
  · obtain ⟨c, x, y, a, b, rfl, _⟩ := h
    rfl
  obtain ⟨c, x, y, a, b, rfl, hc, hx, hy, wa, wb, q⟩ := h
  refine ⟨_, (pss_one (ps_ret (pe_tup (pa_cons (pe_call G (hr.mono (by omega)) (by rfl) T.gwritten T.fwritten.kp T.nwritten .nil pass0 (pa_cons (pe_ix ix_tup (pv 0) pe_int (fun _ _ => rfl)) pa_nil)) (pa_cons (pe_call G (hr.mono (by omega)) (by rfl) T.gwritten T.fwritten.kp T.nwritten .nil pass0 (pa_cons (pe_ix ix_tup (pv 0) pe_int (fun _ _ => rfl)) pa_nil)) pa_nil))))), ?_⟩
  refine ⟨_, rfl, c, _, 0, x, rfl, rfl, SqT.of hc, atI_nat (j := 0) rfl, x, a, rfl, hx, wa.f, wa.w, wa.t, fun H1 s1 => ?_⟩
  refine ⟨_, rfl, c, _, 1, y, rfl, rfl, SqT.of (s1 _ _ hc), atI_nat (j := 1) rfl, y, b, rfl, hy.up s1, wb.f, wb.w, wb.t, fun H2 s2 => ?_⟩
  refine ⟨by show 2 ≤ sizeLine; decide, fun p np => ?_⟩
  refine q p _ (s1.trans (s2.trans (same_put np))) ?_ upd_same
  cases e : H p with
  | none => rfl
  | some o =>
    rw [s2 _ _ (s1 _ _ e)] at np
    cases np
/-- the first side's text comes first -/
def ordD (a b : PyData) : Bool := decide (tx a < tx b)
def ordC : PyData → Bool
  | .tuple [a, b] => ordD a b
  | _ => false
def spOrd (K : PySem.W.Frag) : Sp := fun vs H Q _ => ∃ (c : Addr) (x y : V) (a b : PyData), vs = [.ref c] ∧ H c = some (.tup [x, y]) ∧ Dx K H x a ∧ Dx K H y b ∧ Wr a ∧ Wr b ∧ ∀ H', Same H H' → Q (.bl (ordD a b)) H'
theorem ok_ord (T : Tx K mg) : FnOk P w K mg base CX0 3 T.ais_ordered T.dis_ordered ["couple"] (spOrd K) := by
  have nd := sc_is_ordered.nd
  have G := ok_key (P := P) (w := w) (base := base) T
  refine T.fis_ordered.ok sc_is_ordered (fun vs H Q E h => ?_) (fun cdv A outer s H vs Q E hr h => ?_)
  · obtain ⟨c, x, y, a, b, rfl, _⟩ := h
    rfl
  obtain ⟨c, x, y, a, b, rfl, hc, hx, hy, wa, wb, q⟩ := h
  refine ⟨_, (pss_cons (ps_asg (pe_call G (hr.mono (by omega)) (by rfl) T.gkey_of T.fkey_of.kp T.nkey_of .nil pass0 (pa_cons (pv 0) pa_nil)) (pg_tup rfl (pgs_cons (pg_name (i := 1) nd rfl (.inl rfl)) (pgs_cons (pg_name (i := 2) nd rfl (.inl rfl)) pgs_nil))))
      (pss_one (ps_ret (pe_cmpR op_lt_str (pv 1) (pv 2) (nomark _))))), ?_⟩
  refine ⟨_, rfl, c, x, y, a, b, rfl, hc, hx, hy, wa, wb, fun p H1 s1 np hp => ?_⟩
  refine ⟨p, _, rfl, .inl (.inl hp), rfl, ?_⟩
  exact ⟨_, _, rfl, _, _, rfl, rfl, _, rfl, _, rfl, _, _, rfl, rfl, q H1 s1⟩
def spCp (K : PySem.W.Frag) : Sp := fun vs H Q _ => ∃ (x : V) (d : PyData), vs = [x] ∧ Dx K H x d ∧ Q (.bl (coupleD d)) H
theorem ok_cp (T : Tx K mg) : FnOk P w K mg base CX0 1 T.ais_couple T.dis_couple ["value"] (spCp K) := by
  have nd := sc_is_couple.nd
  refine T.fis_couple.ok sc_is_couple (fun vs H Q E h => ?_) (fun cdv A outer s H vs Q E hr h => ?_)
  · obtain ⟨x, d, rfl, _⟩ := h
    rfl
  obtain ⟨x, d, rfl, hx, q⟩ := h
  refine ⟨_, (pss_one (ps_ret (pe_and (pe_callB call_isi (by rfl) T.b_isinstance (by decide +kernel) (pa_cons (pv 0) (pa_cons (pe_bltn (v := .ty "tuple") (by rfl) T.b_tuple (by decide +kernel) rfl) pa_nil))) (pe_one (pe_cmpR op_eq (pe_callB call_len_seq (by rfl) T.b_len (by decide +kernel) (pa_cons (pv 0) pa_nil)) pe_int (nomark _)))))), ?_⟩
  refine ⟨_, rfl, x, .ty "tuple", _, _, _, rfl, .ty _, hx.ty, kit_ty (kit_tuple d), _, rfl, ?_⟩
  match d, hx, q with
  | .tuple ds, hx, q =>
    cases hx with
    | @tup p xs _ hp hs =>
    have ll := hs.length
    refine iteT ⟨_, rfl, p, xs, rfl, .inr (SqT.of hp), rfl, ?_⟩
    have e : coupleD (.tuple ds) = decide (V.int (xs.length : Int) = V.int 2) := by
      rw [ll]
      match ds with
      | [] => rfl
      | [_] => rfl
      | [_, _] => rfl
      | a :: b :: c :: r =>
        rw [show coupleD (.tuple (a :: b :: c :: r)) = false from rfl]
        refine (decide_eq_false fun z => ?_).symm
        have := V.int.inj z
        simp only [List.length_cons] at this
        omega
    rw [e] at q
    exact q
  | .none, _, q | .bool _, _, q | .int _, _, q | .str _, _, q | .list _, _, q | .dict _, _, q => exact iteF q
end
end K11
/-! The sides of couples. -/
namespace K11
open PySem PySem.Spec PyProof.Rows L2 Kx
theorem sidesD_take {ds : List PyData} {i : Nat} {d : PyData} (h : ds[i]? = some d) : sidesD (ds.take (i + 1)) = sidesD (ds.take i) ++ sidesOf d := by
  rw [List.take_add_one, h]
  simp [sidesD]
theorem sidesD_len : ∀ ds : List PyData, (sidesD ds).length ≤ 2 * ds.length
  | [] => by simp [sidesD]
  | d :: ds => by
    have := sidesD_len ds
    have h1 : (sidesOf d).length ≤ 2 := by
      match d with
      | .tuple [a, b] => exact Nat.le_refl 2
      | .tuple [] => simp [sidesOf]
      | .tuple [_] => simp [sidesOf]
      | .tuple (_ :: _ :: _ :: _) => simp [sidesOf]
      | .none | .bool _ | .int _ | .str _ | .list _ | .dict _ => simp [sidesOf]
    simp only [sidesD, List.flatMap_cons, List.length_append, List.length_cons] at *
    omega
section
variable {P : Program} {w : World} {K : PySem.W.Frag} {mg : Str → Option Value} {base : Heap}
def spSides (K : PySem.W.Frag) : Sp := fun vs H Q _ => ∃ (l : Addr) (xs : List V) (ds : List PyData), vs = [.ref l] ∧ SqL K H l xs ∧ DxAll K H xs ds ∧ ds.all coupleD = true ∧ ds.length ≤ 300 ∧
  ∀ p ys H', Same H H' → H' p = some (.lst ys) → DxAll K H' ys (sidesD ds) → Q (.ref p) H'
theorem ok_sides (T : Tx K mg) : FnOk P w K mg base CX0 1 T.asides_of T.dsides_of ["couples"] (spSides K) := by
  have nd := sc_sides_of.nd
  refine T.fsides_of.ok sc_sides_of (fun vs H Q E h => ?_) (fun cdv A outer s H vs Q E hr h => ?_)
  · obtain ⟨l, xs, ds, rfl, _⟩ := h
    rfl
  obtain ⟨l, xs, ds, rfl, hl, hx, hc, few, q⟩ := h
  refine ⟨_, (pss_one (ps_ret (pe_lc2 (own := [("couple", 1), ("term", 2)]) (vs1 := [2]) (g := (gName 1)) (g1 := (gName 2)) (wi1 := iTup K (tVar 1)) (tt := tYes) (tt1 := tYes) (by rfl) nd (pi_list (pv 0)) (blkOk_by (own := [("couple", 1), ("term", 2)]) (N := N_sides_of) (sc := defScope s_sides_of) (by decide +kernel)) (by decide) (fun _ _ _ _ _ => pg_name (i := 1) nd rfl (.inl rfl)) (fun _ _ _ _ _ => pts_nil) (fun _ _ _ _ _ => pi_tup (pv 1)) (fun _ _ _ _ _ => pg_name (i := 2) nd rfl (.inl rfl)) (fun _ _ _ _ _ => pts_nil) (fun _ _ _ _ _ => (pv 2))))), ?_⟩
  refine ⟨_, rfl, l, rfl, ⟨_, hl⟩, fun D nD => ?_⟩
  have lx := hx.length
  let Pv : Nat → Hp → Prop := fun i G => Same H G ∧ ∃ ys, G D = some (.lst ys) ∧ DxAll K H ys (sidesD (ds.take i))
  refine ⟨fun i m G => m = xs.length - i ∧ i ≤ xs.length ∧ Pv i G, ⟨xs.length, by simp, Nat.zero_le _, same_put nD, [], upd_same, .nil⟩, ?_⟩
  rintro i m G ⟨rfl, hi, sG, ys, eD, dy⟩
  by_cases hlt : i < xs.length
  · refine .inr ⟨⟨xs, xs[i], sG.seq hl, by simp [hlt]⟩, Pv (i + 1), fun H' p' => ⟨xs.length - (i + 1), by omega, rfl, hlt, p'⟩, fun x H' y => ?_⟩
    obtain ⟨e, y⟩ := y
    subst e
    have hxi := y xs (sG.seq hl)
    have gd := List.getElem?_eq_getElem (show i < ds.length by omega)
    obtain ⟨v, hv, dv⟩ := hx.get gd
    rw [hxi] at hv
    cases hv
    have cd : coupleD ds[i] = true := List.all_eq_true.mp hc _ (List.getElem_mem _)
    obtain ⟨a, b, eab⟩ := couple_eq cd
    rw [eab] at dv gd
    obtain ⟨p, u, v, rfl, hp, du, dv2⟩ := dx_couple dv
    refine ⟨rfl, (iteT (B := Pv (i + 1) H') ?_ : if true = true then _ else Pv (i + 1) H')⟩
    refine ⟨_, rfl, p, rfl, ⟨_, SqT.of (sG _ _ hp)⟩, ?_⟩
    let Nx : Nat → Hp → Prop := fun j G => j ≤ 2 ∧ Same H G ∧ ∃ ys, G D = some (.lst ys) ∧ DxAll K H ys (sidesD (ds.take i) ++ [a, b].take j)
    refine ⟨fun j k G2 => k = 2 - j ∧ Nx j G2, ⟨2, rfl, by omega, sG, ys, eD, by simpa using dy⟩, ?_⟩
    rintro j k G2 ⟨rfl, hj, sG2, ys2, eD2, dy2⟩
    have ll : ys2.length ≤ 602 := by
      rw [dy2.length, List.length_append, List.length_take]
      have := sidesD_len (ds.take i)
      rw [List.length_take] at this
      simp only [List.length_cons, List.length_nil]
      omega
    by_cases h2 : j < 2
    · refine .inr ⟨⟨[u, v], [u, v][j]'(by simpa using h2), SqT.of (sG2 _ _ hp), by simp [h2]⟩, Nx (j + 1), fun G3 h3 => ⟨2 - (j + 1), by omega, rfl, h3⟩, fun x G3 y => ?_⟩
      obtain ⟨e, y⟩ := y
      subst e
      have hxj := y [u, v] (SqT.of (sG2 _ _ hp))
      refine ⟨rfl, (iteT (B := Nx (j + 1) G3) ?_ : if true = true then _ else Nx (j + 1) G3)⟩
      refine ⟨_, rfl, ys2, eD2, small1000 (by omega), by omega, fun c o hc => ?_, ys2 ++ [x], upd_same, ?_⟩
      · rw [upd_ne (ne_of_none hc nD)]
        exact sG2 c o hc
      · have e01 : j = 0 ∨ j = 1 := by omega
        rcases e01 with rfl | rfl
        · cases hxj
          have e : sidesD (ds.take i) ++ [a, b].take (0 + 1) = (sidesD (ds.take i) ++ [a, b].take 0) ++ [a] := by simp
          rw [e]
          exact DxAll.append dy2 (.cons du .nil)
        · cases hxj
          have e : sidesD (ds.take i) ++ [a, b].take (1 + 1) = (sidesD (ds.take i) ++ [a, b].take 1) ++ [b] := by simp
          rw [e]
          exact DxAll.append dy2 (.cons dv2 .nil)
    · have e : j = 2 := by omega
      subst e
      refine .inl ⟨⟨[u, v], SqT.of (sG2 _ _ hp), Nat.le_refl _⟩, sG2, ys2, eD2, ?_⟩
      rw [sidesD_take gd]
      exact dy2
  · have e : i = xs.length := by omega
    subst e
    refine .inl ⟨⟨xs, sG.seq hl, Nat.le_refl _⟩, ?_⟩
    rw [lx, List.take_length] at dy
    exact q D ys G sG eD (dy.up sG)
theorem sides_short : ∀ ds : List PyData, shortAll ds = true → shortAll (sidesD ds) = true
  | [], _ => rfl
  | d :: ds, h => by
    rw [shortAll, Bool.and_eq_true] at h
    have ih := sides_short ds h.2
    rw [show sidesD (d :: ds) = sidesOf d ++ sidesD ds from rfl, shortAll_append, ih, Bool.and_true]
    match d, h.1 with
    | .tuple [a, b], h => exact h
    | .tuple [], h => rfl
    | .tuple [_], h => rfl
    | .tuple (_ :: _ :: _ :: _), h => rfl
    | .none, _ | .bool _, _ | .int _, _ | .str _, _ | .list _, _ | .dict _, _ => rfl
theorem sides_sz : ∀ ds : List PyData, szAll (sidesD ds) ≤ szAll ds
  | [] => Nat.le_refl _
  | d :: ds => by
    have ih := sides_sz ds
    rw [show sidesD (d :: ds) = sidesOf d ++ sidesD ds from rfl, szAll_append, szAll]
    have : szAll (sidesOf d) ≤ szD d := by
      match d with
      | .tuple [a, b] => simp only [sidesOf, szD]; omega
      | .tuple [] => simp [sidesOf, szAll]
      | .tuple [_] => simp [sidesOf, szAll]
      | .tuple (_ :: _ :: _ :: _) => simp [sidesOf, szAll]
      | .none | .bool _ | .int _ | .str _ | .list _ | .dict _ => simp [sidesOf, szAll]
    omega
def spAre (K : PySem.W.Frag) : Sp := fun vs H Q _ => ∃ (l : Addr) (xs : List V) (ds : List PyData), vs = [.ref l] ∧ SqL K H l xs ∧ DxAll K H xs ds ∧ shortAll ds = true ∧ szAll ds ≤ 100000 ∧ ds.length ≤ 300 ∧
  ∀ H', Same H H' → Q (.bl (couplesD ds)) H'
theorem ok_are (T : Tx K mg) : FnOk P w K mg base CX0 4 T.aare_couples T.dare_couples ["values"] (spAre K) := by
  have nd := sc_are_couples.nd
  have G1 := ok_cp (P := P) (w := w) (base := base) T
  have G2 := ok_sides (P := P) (w := w) (base := base) T
  have G3 := ok_jointL (P := P) (w := w) (base := base) T
  refine T.fare_couples.ok sc_are_couples (fun vs H Q E h => ?_) (fun cdv A outer s H vs Q E hr h => ?_)
  · obtain ⟨l, xs, ds, rfl, _⟩ := h
    rfl
  obtain ⟨l, xs, ds, rfl, hl, hx, sh, sz, few, q⟩ := h
  refine ⟨_, (pss_cons (ps_if (pt_not (pt_val (pe_callB (cr_all rfl) (by rfl) T.b_all (by decide +kernel) (pa_cons (pe_lc (own := [("value", 1)]) (g := (gName 1)) (tt := tYes) (by rfl) nd (pi_list (pv 0)) (blkOk_by (own := [("value", 1)]) (N := N_are_couples) (sc := defScope s_are_couples) (by decide +kernel)) (fun _ _ _ _ _ => pg_name (i := 1) nd rfl (.inl rfl)) (fun _ _ _ _ _ => pts_nil) (fun _ _ _ _ _ => (pe_call G1 (hr.mono (by omega)) (by rfl) T.gis_couple T.fis_couple.kp T.nis_couple .nil pass0 (pa_cons (pv 1) pa_nil)))) pa_nil)))) (pss_one (ps_ret pe_bl)) pss_nil)
      (pss_one (ps_ret (pe_cmpR op_notN (pe_call G3 (hr.mono (by omega)) (by rfl) T.gjoint_places T.fjoint_places.kp T.njoint_places .nil pass0 (pa_cons (pe_call G2 (hr.mono (by omega)) (by rfl) T.gsides_of T.fsides_of.kp T.nsides_of .nil pass0 (pa_cons (pv 0) pa_nil)) pa_nil)) pe_non (nomark _))))), ?_⟩
  have lx := hx.length
  refine ⟨_, rfl, l, rfl, ⟨_, hl⟩, fun D nD => ?_⟩
  refine lc_list (K := K) (a := l) (xs := xs) (fun i G => Same H G ∧ G D = some (.lst (((ds.take i).map coupleD).map V.bl))) ⟨same_put nD, upd_same⟩ (fun i G _ h => h.1.seq hl) ?_ ?_
  · rintro i x G hi ⟨sG, eD⟩
    have lti : i < ds.length := by rw [← lx]; exact (List.getElem?_eq_some_iff.mp hi).1
    have gd := List.getElem?_eq_getElem lti
    obtain ⟨v, hv, dv⟩ := hx.get gd
    rw [hi] at hv
    cases hv
    refine ⟨rfl, (iteT (B := False) ?_ : if true = true then _ else False)⟩
    refine ⟨_, rfl, x, ds[i], rfl, dv.up sG, _, eD, ?_, fun c o hc => ?_, ?_⟩
    · rw [List.length_map, List.length_map, List.length_take]
      exact small1000 (by omega)
    · rw [upd_ne (ne_of_none hc nD)]
      exact sG c o hc
    · rw [upd_same, List.take_add_one, gd, List.map_append, List.map_append]
      rfl
  · rintro G ⟨sG, eD⟩
    rw [lx, List.take_length] at eD
    refine ⟨D, _, rfl, .inl (.inl eD), _, rfl, ?_⟩
    have eall : ((ds.map coupleD).all id) = ds.all coupleD := by simp
    rw [eall]
    cases hc : ds.all coupleD with
    | false =>
      have e : couplesD ds = false := by simp [couplesD, hc]
      have q := q G sG
      rw [e] at q
      exact iteT q
    | true =>
      refine iteF ?_
      refine ⟨_, rfl, l, xs, ds, rfl, sG.seq hl, hx.up sG, hc, few, fun p ys H1 s1 hp dy => ?_⟩
      refine ⟨p, ys, sidesD ds, rfl, SqL.of hp, dy, sides_short ds sh, Nat.le_trans (sides_sz ds) sz, fun v H2 s2 h1 h2 => ?_⟩
      have q := q H2 (sG.trans (s1.trans s2))
      have e : couplesD ds = jointD (sidesD ds) := by simp [couplesD, hc]
      rw [e] at q
      cases j : jointD (sidesD ds) with
      | false =>
        rw [j] at q
        cases h1 j
        exact ⟨rfl, q⟩
      | true =>
        rw [j] at q
        obtain ⟨p, ms, rfl, _⟩ := h2 j
        exact ⟨rfl, q⟩
def isPairD (d : PyData) : Bool := couplesD [d] && ordC d
theorem dx_nil {K : PySem.W.Frag} {H : Hp} {v : V} {d : PyData} (h : Dx K H v d) : d = .none ↔ v = .non := by
  constructor
  · rintro rfl
    cases h
    rfl
  · rintro rfl
    cases h
    rfl
/-- the sides of couples that hang together may be written -/
theorem couples_wr {ds : List PyData} (h : couplesD ds = true) (z : szAll ds ≤ 10000) : ∀ d, d ∈ ds → ∃ a b, d = .tuple [a, b] ∧ Wr a ∧ Wr b := fun d hd => by
  simp only [couplesD, Bool.and_eq_true] at h
  obtain ⟨a, b, rfl⟩ := couple_eq (List.all_eq_true.mp h.1 d hd)
  have hj : formedAll (sidesD ds) = true := by
    have := h.2
    simp only [jointD, Bool.and_eq_true] at this
    exact this.1
  have fm : ∀ (l : List PyData), formedAll l = true → ∀ e, e ∈ l → formedD e = true := by
    intro l
    induction l with
    | nil => intro _ e he; cases he
    | cons x l ih =>
      intro hl e he
      rw [formedAll, Bool.and_eq_true] at hl
      rcases List.mem_cons.mp he with rfl | he
      · exact hl.1
      · exact ih hl.2 e he
  have sm : ∀ (l : List PyData) e, e ∈ l → szD e ≤ szAll l := by
    intro l
    induction l with
    | nil => intro e he; cases he
    | cons x l ih =>
      intro e he
      rw [szAll]
      rcases List.mem_cons.mp he with rfl | he
      · omega
      · have := ih e he
        omega
  have ma : a ∈ sidesD ds := List.mem_flatMap.mpr ⟨_, hd, by simp [sidesOf]⟩
  have mb : b ∈ sidesD ds := List.mem_flatMap.mpr ⟨_, hd, by simp [sidesOf]⟩
  have z2 := sides_sz ds
  exact ⟨a, b, rfl, wr_of (fm _ hj a ma) (by have := sm _ a ma; omega), wr_of (fm _ hj b mb) (by have := sm _ b mb; omega)⟩
end
end K11
/-! Facts, as they are judged. -/
namespace K11
open PySem PySem.Spec PyProof.Rows L2 Kx StX
/-- the conclusion, where there is one -/
def endOf : PyData → List PyData
  | .none => []
  | e => [e]
theorem endOf_some {e : PyData} (h : e ≠ .none) : endOf e = [e] := by
  cases e <;> first | exact absurd rfl h | rfl
section
variable {P : Program} {w : World} {K : PySem.W.Frag} {mg : Str → Option Value} {base : Heap}
def spPi (K : PySem.W.Frag) : Sp := fun vs H Q _ => ∃ (f t : Addr) (us : List V) (v : V) (ps : List PyData) (e : PyData), vs = [.ref f] ∧ H f = some (.tup [.ref t, v]) ∧ H t = some (.tup us) ∧ DxAll K H us ps ∧ Dx K H v e ∧ ps.length ≤ 299 ∧
  ∀ p ys H', Same H H' → H p = none → H' p = some (.lst ys) → DxAll K H' ys (ps ++ endOf e) → Q (.ref p) H'
theorem ok_pi (T : Tx K mg) : FnOk P w K mg base CX0 1 T.apairs_in T.dpairs_in ["fact"] (spPi K) := by
  have nd := sc_pairs_in.nd
  refine T.fpairs_in.ok sc_pairs_in (fun vs H Q E h => ?_) (fun cdv A outer s H vs Q E hr h => ?_)
  · obtain ⟨f, t, us, v, ps, e, rfl, _⟩ := h
    rfl
  obtain ⟨f, t, us, v, ps, e, rfl, hf, ht, hu, he, few, q⟩ := h
  refine ⟨_, (pss_one (ps_ret (pe_ifExp (pt_cmpR op_isN (pe_ix ix_tup (pv 0) pe_int (fun _ _ => rfl)) pe_non (nomark _)) (pe_callTy call_list_of (by rfl) T.b_list (by decide +kernel) (pa_cons (pe_ix ix_tup (pv 0) pe_int (fun _ _ => rfl)) pa_nil)) (pe_lst (pa_star (pe_ix ix_tup (pv 0) pe_int (fun _ _ => rfl)) (pa_cons (pe_ix ix_tup (pv 0) pe_int (fun _ _ => rfl)) pa_nil)))))), ?_⟩
  refine ⟨_, rfl, f, _, 1, v, rfl, rfl, SqT.of hf, atI_nat (j := 1) rfl, rfl, _, rfl, ?_⟩
  by_cases ev : v = .non
  · have ee := (dx_nil he).mpr ev
    subst ev ee
    refine iteT ⟨_, rfl, f, _, 0, .ref t, rfl, rfl, SqT.of hf, atI_nat (j := 0) rfl, t, us, rfl, .inr (SqT.of ht), fun p np => ?_⟩
    exact q p us _ (same_put np) np upd_same (by rw [show endOf .none = [] from rfl, List.append_nil]; exact hu.up (same_put np))
  · have ee : e ≠ .none := fun z => ev ((dx_nil he).mp z)
    rw [decide_eq_false ev]
    refine iteF ⟨_, rfl, f, _, 0, .ref t, rfl, rfl, SqT.of hf, atI_nat (j := 0) rfl, t, us, rfl, .inl (SqT.of ht), ?_⟩
    refine ⟨_, rfl, f, _, 1, v, rfl, rfl, SqT.of hf, atI_nat (j := 1) rfl, ?_, fun p np => ?_⟩
    · have := hu.length
      rw [List.length_append]
      exact Nat.le_of_lt (small1000 (by show us.length + 1 ≤ 1000; omega))
    · exact q p _ _ (same_put np) np upd_same (by rw [endOf_some ee]; exact (DxAll.append hu (.cons he .nil)).up (same_put np))
/-- a couple's texts -/
def keyC : PyData → PyData
  | .tuple [a, b] => .tuple [.str (tS (tx a)), .str (tS (tx b))]
  | d => d
def chainD (ks : List PyData) : Bool := (ks.zip ks.tail).all fun p => PySem.W.dataLt p.1 p.2
def factB : PyData → PyData → Bool
  | .tuple ps, e => couplesD (ps ++ endOf e) && ((ps ++ endOf e).all ordC && chainD (ps.map keyC))
  | _, _ => false
def factD : PyData → Bool
  | .tuple [a, e] => factB a e
  | _ => false
theorem pure_keys : ∀ {ps : List PyData}, (∀ d, d ∈ ps → ∃ a b, d = .tuple [a, b] ∧ Wr a ∧ Wr b) → pureAll (ps.map keyC) = true
  | [], _ => rfl
  | d :: ps, h => by
    obtain ⟨a, b, rfl, _⟩ := h d List.mem_cons_self
    rw [List.map_cons, pureAll, pure_keys fun d hd => h d (List.mem_cons_of_mem _ hd)]
    rfl
def spFact (K : PySem.W.Frag) : Sp := fun vs H Q _ => ∃ (x : V) (d : PyData), vs = [x] ∧ Dx K H x d ∧ shortD d = true ∧ szD d ≤ 10000 ∧ (∀ ps e, d = .tuple [.tuple ps, e] → ps.length ≤ 100) ∧ ∀ H', Same H H' → Q (.bl (factD d)) H'
theorem ok_fact (T : Tx K mg) : FnOk P w K mg base CX0 5 T.ais_fact T.dis_fact ["value"] (spFact K) := by
  have nd := sc_is_fact.nd
  have G1 := ok_cp (P := P) (w := w) (base := base) T
  have G2 := ok_pi (P := P) (w := w) (base := base) T
  have G3 := ok_are (P := P) (w := w) (base := base) T
  have G4 := ok_ord (P := P) (w := w) (base := base) T
  have G5 := ok_key (P := P) (w := w) (base := base) T
  refine T.fis_fact.ok sc_is_fact (fun vs H Q E h => ?_) (fun cdv A outer s H vs Q E hr h => ?_)
  · obtain ⟨x, d, rfl, _⟩ := h
    rfl
  obtain ⟨x, d, rfl, hx, sh, sz, few, q⟩ := h
  refine ⟨_, (pss_cons (ps_if (PW.pt (pw_or (pt_not (pt_val (pe_call G1 (hr.mono (by omega)) (by rfl) T.gis_couple T.fis_couple.kp T.nis_couple .nil pass0 (pa_cons (pv 0) pa_nil)))) (pw_or1 (pt_not (pt_val (pe_callB call_isi (by rfl) T.b_isinstance (by decide +kernel) (pa_cons (pe_ix ix_tup (pv 0) pe_int (fun _ _ => rfl)) (pa_cons (pe_bltn (v := .ty "tuple") (by rfl) T.b_tuple (by decide +kernel) rfl) pa_nil)))))))) (pss_one (ps_ret pe_bl)) pss_nil)
      (pss_cons (ps_set (i := 1) nd rfl (.inl rfl) (pe_call G2 (hr.mono (by omega)) (by rfl) T.gpairs_in T.fpairs_in.kp T.npairs_in .nil pass0 (pa_cons (pv 0) pa_nil)))
      (pss_cons (ps_if (PW.pt (pw_or (pt_not (pt_val (pe_call G3 (hr.mono (by omega)) (by rfl) T.gare_couples T.fare_couples.kp T.nare_couples .nil pass0 (pa_cons (pv 1) pa_nil)))) (pw_or1 (pt_not (pt_val (pe_callB (cr_all rfl) (by rfl) T.b_all (by decide +kernel) (pa_cons (pe_lc (own := [("pair", 3)]) (g := (gName 3)) (tt := tYes) (by rfl) nd (pi_list (pv 1)) (blkOk_by (own := [("pair", 3)]) (N := N_is_fact) (sc := defScope s_is_fact) (by decide +kernel)) (fun _ _ _ _ _ => pg_name (i := 3) nd rfl (.inl rfl)) (fun _ _ _ _ _ => pts_nil) (fun _ _ _ _ _ => (pe_call G4 (hr.mono (by omega)) (by rfl) T.gis_ordered T.fis_ordered.kp T.nis_ordered .nil pass0 (pa_cons (pv 3) pa_nil)))) pa_nil))))))) (pss_one (ps_ret pe_bl)) pss_nil)
      (pss_cons (ps_setLc (i := 2) (own := [("pair", 3)]) (g := (gName 3)) (tt := tYes) (by rfl) nd rfl rfl (sw_true rfl rfl rfl (by decide +kernel)) (pi_tup (pe_ix ix_tup (pv 0) pe_int (fun _ _ => rfl))) (blkOk_by (own := [("pair", 3)]) (N := N_is_fact) (sc := defScope s_is_fact) (by decide +kernel)) (fun _ _ _ _ _ => pg_name (i := 3) nd rfl (.inl rfl)) (fun _ _ _ _ _ => pts_nil) (fun _ _ _ _ _ => (pe_call G5 (hr.mono (by omega)) (by rfl) T.gkey_of T.fkey_of.kp T.nkey_of .nil pass0 (pa_cons (pv 3) pa_nil))))
      (pss_one (ps_ret (pe_callB (cr_all rfl) (by rfl) T.b_all (by decide +kernel) (pa_cons (pe_lc (own := [("key", 4), ("further", 5)]) (g := (gTup K 2 (gCons (gName 4) (gCons (gName 5) gNil)))) (tt := tYes) (by rfl) nd (pi_zip (by rfl) T.b_zip (pa_cons (pv 2) (pa_cons (pe_slice sl_list (pv 2) (po_some pe_int) po_none) pa_nil))) (blkOk_by (own := [("key", 4), ("further", 5)]) (N := N_is_fact) (sc := defScope s_is_fact) (by decide +kernel)) (fun _ _ _ _ _ => pg_tup rfl (pgs_cons (pg_name (i := 4) nd rfl (.inl rfl)) (pgs_cons (pg_name (i := 5) nd rfl (.inl rfl)) pgs_nil))) (fun _ _ _ _ _ => pts_nil) (fun _ _ _ _ _ => (pe_cmpR (r := rLtD K) (op_ltD hr.units) (pv 4) (pv 5) (nomark _)))) pa_nil)))))))), ?_⟩
  have no : factD d = false → ∀ H', Same H H' → Q (.bl false) H' := fun e H' s => by
    have := q H' s
    rw [e] at this
    exact this
  refine ⟨_, rfl, x, d, rfl, hx, _, rfl, ?_⟩
  cases hcd : coupleD d with
  | false =>
    refine iteT (no ?_ H (Same.refl H))
    match d, hcd with
    | .tuple [], _ | .tuple [_], _ | .tuple (_ :: _ :: _ :: _), _ => rfl
    | .none, _ | .bool _, _ | .int _, _ | .str _, _ | .list _, _ | .dict _, _ => rfl
  | true =>
  obtain ⟨d0, e, rfl⟩ := couple_eq hcd
  obtain ⟨f, x0, v, rfl, hf, h0, hv⟩ := dx_couple hx
  refine iteF ⟨_, rfl, f, _, 0, x0, rfl, rfl, SqT.of hf, atI_nat (j := 0) rfl, x0, .ty "tuple", _, _, _, rfl, .ty _, h0.ty, kit_ty (kit_tuple d0), _, rfl, ?_⟩
  match d0, h0 with
  | .none, _ | .bool _, _ | .int _, _ | .str _, _ | .list _, _ | .dict _, _ => exact iteT (no rfl H (Same.refl H))
  | .tuple ps, h0 =>
  cases h0 with
  | @tup t us _ ht hu =>
  have fps := few ps e rfl
  refine iteF ⟨_, rfl, f, t, us, v, ps, e, rfl, hf, ht, hu, hv, by omega, fun p ys H1 s1 np hp dy => ?_⟩
  have sh2 : shortAll ps = true ∧ shortD e = true := by
    have : shortAll [.tuple ps, e] = true := sh
    simpa [shortAll, shortD] using this
  have z2 : szAll (ps ++ endOf e) ≤ 10000 := by
    have : szAll (endOf e) ≤ szD e := by cases e <;> simp [endOf, szAll, szD]
    rw [szAll_append]
    simp only [szD, szAll] at sz
    omega
  have sh3 : shortAll (ps ++ endOf e) = true := by
    rw [shortAll_append, sh2.1, Bool.true_and]
    have := sh2.2
    cases e <;> simp_all [endOf, shortAll]
  have l3 : (ps ++ endOf e).length ≤ 101 := by
    rw [List.length_append]
    have : (endOf e).length ≤ 1 := by cases e <;> simp [endOf]
    omega
  refine ⟨_, rfl, p, ys, _, rfl, SqL.of hp, dy, sh3, by omega, by omega, fun H2 s2 => ⟨_, rfl, ?_⟩⟩
  have s12 := s1.trans s2
  have ef : factD (.tuple [.tuple ps, e]) = (couplesD (ps ++ endOf e) && ((ps ++ endOf e).all ordC && chainD (ps.map keyC))) := rfl
  cases hcs : couplesD (ps ++ endOf e) with
  | false => exact iteT (no (by rw [ef, hcs]; rfl) H2 s12)
  | true =>
  have wr := couples_wr hcs z2
  rw [hcs, Bool.true_and] at ef
  have hp2 := s2 _ _ hp
  have dy2 := dy.up s2
  refine iteF ⟨_, rfl, p, rfl, ⟨_, SqL.of hp2⟩, fun D nD => ?_⟩
  have ly := dy2.length
  refine lc_list (K := K) (a := p) (xs := ys) (fun i G => Same H2 G ∧ G D = some (.lst ((((ps ++ endOf e).take i).map ordC).map V.bl))) ⟨same_put nD, upd_same⟩ (fun i G _ h => SqL.of (h.1 _ _ hp2)) ?_ ?_
  · rintro i x G hi ⟨sG, eD⟩
    have lti : i < (ps ++ endOf e).length := by rw [← ly]; exact (List.getElem?_eq_some_iff.mp hi).1
    have gd := List.getElem?_eq_getElem lti
    obtain ⟨v2, hv2, dv⟩ := dy2.get gd
    rw [hi] at hv2
    cases hv2
    obtain ⟨a, b, eab, wa, wb⟩ := wr _ (List.getElem_mem lti)
    rw [eab] at dv
    obtain ⟨q0, u, v3, rfl, hq0, du, dv3⟩ := dx_couple dv
    refine ⟨rfl, (iteT (B := False) ?_ : if true = true then _ else False)⟩
    refine ⟨_, rfl, q0, u, v3, a, b, rfl, sG _ _ hq0, du.up sG, dv3.up sG, wa, wb, fun H3 s3 => ⟨_, s3 _ _ eD, ?_, fun c o hc => ?_, ?_⟩⟩
    · rw [List.length_map, List.length_map, List.length_take]
      exact small1000 (by omega)
    · rw [upd_ne (ne_of_none hc nD)]
      exact s3 _ _ (sG c o hc)
    · rw [upd_same, List.take_add_one, gd, List.map_append, List.map_append, eab]
      rfl
  · rintro G ⟨sG, eD⟩
    rw [ly, List.take_length] at eD
    refine ⟨D, _, rfl, .inl (.inl eD), _, rfl, ?_⟩
    have eall : (((ps ++ endOf e).map ordC).all id) = (ps ++ endOf e).all ordC := by
      rw [List.all_map]
      rfl
    rw [eall]
    have s3 := s12.trans sG
    cases ho : (ps ++ endOf e).all ordC with
    | false => exact iteT (no (by rw [ef, ho]; rfl) G s3)
    | true =>
    rw [ho, Bool.true_and] at ef
    refine iteF ?_
    have wps : ∀ d, d ∈ ps → ∃ a b, d = .tuple [a, b] ∧ Wr a ∧ Wr b := fun d hd => wr d (List.mem_append_left _ hd)
    have lu := hu.length
    refine ⟨_, rfl, f, _, 0, .ref t, rfl, rfl, SqT.of (s3 _ _ hf), atI_nat (j := 0) rfl, t, rfl, ⟨_, SqT.of (s3 _ _ ht)⟩, fun D2 nD2 => ?_⟩
    refine lc_tup (K := K) (a := t) (xs := us) (fun i G2 => Same G G2 ∧ ∃ vs, G2 D2 = some (.lst vs) ∧ DxAll K G2 vs ((ps.take i).map keyC)) ⟨same_put nD2, [], upd_same, .nil⟩ (fun i G2 _ h => SqT.of (h.1 _ _ (s3 _ _ ht))) ?_ ?_
    · rintro i x G2 hi ⟨sG2, vs, eD2, dk⟩
      have lti : i < ps.length := by rw [← lu]; exact (List.getElem?_eq_some_iff.mp hi).1
      have gd := List.getElem?_eq_getElem lti
      obtain ⟨v2, hv2, dv⟩ := hu.get gd
      rw [hi] at hv2
      cases hv2
      obtain ⟨a, b, eab, wa, wb⟩ := wps _ (List.getElem_mem lti)
      rw [eab] at dv
      obtain ⟨q0, u, v3, rfl, hq0, du, dv3⟩ := dx_couple dv
      have sHG := s3.trans sG2
      refine ⟨rfl, (iteT (B := False) ?_ : if true = true then _ else False)⟩
      refine ⟨_, rfl, q0, u, v3, a, b, rfl, sHG _ _ hq0, du.up sHG, dv3.up sHG, wa, wb, fun k G3 sG3 nk hk => ⟨_, sG3 _ _ eD2, ?_, fun c o hc => ?_, vs ++ [.ref k], upd_same, ?_⟩⟩
      · rw [dk.length, List.length_map, List.length_take]
        exact small1000 (by omega)
      · rw [upd_ne (ne_of_none hc nD2)]
        exact sG3 _ _ (sG2 c o hc)
      · have nkD : k ≠ D2 := (ne_of_none eD2 nk).symm
        have e1 : (ps.take (i + 1)).map keyC = (ps.take i).map keyC ++ [keyC ps[i]] := by
          rw [List.take_add_one, gd, List.map_append]
          rfl
        rw [e1, eab]
        refine DxAll.append (DxAll.ts (Tups.lst (sG3 _ _ eD2)) _ _ ?_ (dk.up sG3)) (.cons (.tup (by rw [upd_ne nkD]; exact hk) (.cons (.str _) (.cons (.str _) .nil))) .nil)
        exact pure_keys fun d hd => wps d (List.mem_of_mem_take hd)
    · rintro G2 ⟨sG2, vs, eD2, dk⟩
      rw [lu, List.take_length] at dk
      refine ⟨_, rfl, _, rfl, 1, rfl, ?_⟩
      dsimp only [tNoPart]
      refine ⟨D2, vs, rfl, SqL.of eD2, fun D3 nD3 => ?_⟩
      have ec : cutV vs (some 1) none = vs.drop 1 := by
        cases vs with
        | nil => rfl
        | cons a b => exact cut_one (by simp)
      rw [ec]
      have s4 := s3.trans (sG2.trans (same_put (o := .lst (vs.drop 1)) nD3))
      have eD24 := same_put (o := .lst (vs.drop 1)) nD3 _ _ eD2
      have dk4 := dk.up (same_put (o := .lst (vs.drop 1)) nD3)
      have eD3 : (upd G2 D3 (.lst (vs.drop 1))) D3 = some (.lst (vs.drop 1)) := upd_same
      generalize upd G2 D3 (.lst (vs.drop 1)) = G3 at s4 eD24 dk4 eD3 ⊢
      refine ⟨D2, D3, vs, vs.drop 1, rfl, SqL.of eD24, SqL.of eD3, fun D4 nD4 => ?_⟩
      have lk : vs.length = ps.length := by rw [dk.length, List.length_map]
      obtain ⟨ks, eks⟩ : ∃ ks, ks = ps.map keyC := ⟨_, rfl⟩
      have lks : ks.length = vs.length := by rw [eks, List.length_map, lk]
      obtain ⟨cs, ecs⟩ : ∃ cs : List Bool, cs = (ks.zip ks.tail).map fun p => PySem.W.dataLt p.1 p.2 := ⟨_, rfl⟩
      have lcs : cs.length = vs.length - 1 := by
        rw [ecs, List.length_map, List.length_zip, List.length_tail, lks]
        omega
      rw [← eks] at dk4 ef
      refine lc_it (walk_zip (n := vs.length - 1) (by rw [List.length_drop]; omega)) (fun i G4 => Same G3 G4 ∧ G4 D4 = some (.lst ((cs.take i).map V.bl))) ⟨same_put nD4, upd_same⟩ (fun i G4 _ h => ⟨SqL.of (h.1 _ _ eD24), SqL.of (h.1 _ _ eD3)⟩) ?_ ?_
      · rintro i x G4 G5 hi ⟨sG4, eD4⟩ ⟨T5, u, v5, rfl, nT5, rfl, hu5, hv5⟩
        have hi1 : i < ks.length := by omega
        have hi2 : i + 1 < ks.length := by omega
        have hu5 : vs[i]? = some u := hu5
        have hv5 : (vs.drop 1)[i]? = some v5 := hv5
        rw [List.getElem?_drop, Nat.add_comm] at hv5
        have g1 := List.getElem?_eq_getElem hi1
        have g2 := List.getElem?_eq_getElem hi2
        obtain ⟨u', hu', du⟩ := dk4.get g1
        obtain ⟨v', hv', dv⟩ := dk4.get g2
        rw [hu5] at hu'
        rw [hv5] at hv'
        cases hu'
        cases hv'
        have kd : ∀ (j : Nat) (hj : j < ks.length), ∃ x y : Str, ks[j] = .tuple [.str x, .str y] := fun j hj => by
          have lt : j < ps.length := by omega
          obtain ⟨a, b, e1, _⟩ := wps ps[j] (List.getElem_mem lt)
          refine ⟨tS (tx a), tS (tx b), ?_⟩
          have : ks[j]? = some (keyC ps[j]) := by rw [eks, List.getElem?_map, List.getElem?_eq_getElem lt]; rfl
          rw [List.getElem?_eq_getElem hj, e1] at this
          exact Option.some.inj this
        obtain ⟨x1, y1, k1⟩ := kd i hi1
        obtain ⟨x2, y2, k2⟩ := kd (i + 1) hi2
        have s5 := sG4.trans (same_put (o := .tup [u, v5]) nT5)
        have eD5 := same_put (o := .tup [u, v5]) nT5 _ _ eD4
        have eT5 : (upd G4 T5 (.tup [u, v5])) T5 = some (.tup [u, v5]) := upd_same
        generalize upd G4 T5 (.tup [u, v5]) = G5 at s5 eD5 eT5 ⊢
        refine ⟨T5, _, rfl, SqT.of eT5, rfl, _, _, rfl, _, _, rfl, rfl, rfl, (iteT (B := False) ?_ : if true = true then _ else False)⟩
        refine ⟨_, rfl, _, rfl, ks[i], ks[i + 1], du.up s5, dv.up s5, by rw [k1, k2]; rfl, by rw [k1]; simp, by rw [k1]; simp [PyData.depth, PyData.depthAll], _, eD5, ?_, fun c o hc => ?_, ?_⟩
        · rw [List.length_map, List.length_take]
          exact small1000 (by omega)
        · rw [upd_ne (ne_of_none hc nD4)]
          exact s5 _ _ hc
        · have gc : cs[i]? = some (PySem.W.dataLt ks[i] ks[i + 1]) := by
            have ez : (ks.zip ks.tail)[i]? = some (ks[i], ks[i + 1]) := List.getElem?_zip_eq_some.mpr ⟨g1, by rw [List.getElem?_tail]; exact g2⟩
            rw [ecs, List.getElem?_map, ez]
            rfl
          rw [upd_same, List.take_add_one, gc, List.map_append]
          rfl
      · rintro G4 ⟨sG4, eD4⟩
        rw [← lcs, List.take_length] at eD4
        refine ⟨D4, _, rfl, .inl (.inl eD4), ?_⟩
        have q := q G4 (s4.trans sG4)
        rw [ef] at q
        have e : cs.all id = chainD ks := by
          rw [ecs, List.all_map]
          rfl
        rw [← e] at q
        exact q
end
end K11
/-! xs.count(y), flat items. -/
namespace Kx
open PySem PySem.Spec PyProof.Rows L2
def rCountF (K : PySem.W.Frag) : V → List V → Hp → VK → Prop := fun x xs H Q => ∃ (a : Addr) (ys : List V) (y : V), x = .ref a ∧ xs = [y] ∧ SqL K H a ys ∧ flatV y = true ∧ ys.all flatV = true ∧ Q (.int ((ys.countP fun z => eqV z y : Nat) : Int)) H
theorem count_eqU {x : V} : ∀ {xs : List V} {us : List Value}, Vals xs us → xs.all flatV = true → us.countP (eqU x) = xs.countP fun y => eqV y x
  | _, _, .nil, _ => rfl
  | y :: xs, u :: us, .cons r t, f => by
    rw [List.all_cons, Bool.and_eq_true] at f
    rw [List.countP_cons, List.countP_cons, count_eqU t f.2, eqU_of r f.1]
theorem mt_countF {X : Cx} : MtR X "list.count" (rCountF X.K) := by
  intro pins s σ H x xs v us Q I rx rxs h
  obtain ⟨p, ys, y, rfl, rfl, hs, fy, fys, q⟩ := h
  cases rx
  obtain ⟨u, rfl, ru⟩ := rxs.one
  obtain ⟨its, rv, ⟨⟨cls, dd, data, sl⟩, n, ho, hc, hdn, hd⟩, hlen⟩ := I.list hs
  simp only at hc hd
  subst hc hd
  refine call_meets PySem.F.slot_list_count ⟨_, ho, rfl⟩ PySem.F.entry_list_count (PySem.F.args_list_count_2 _ _)
    (SeqAt.list_countAt p its.toArray n dd sl u (eqU y)) ⟨ho, fun u' hu' => mem_eqAt ru fy rv fys u' (by simpa using hu'), ?_⟩
  have ec : its.toArray.toList.countP (eqU y) = ys.countP fun z => eqV z y := count_eqU rv fys
  refine ⟨.int ((ys.countP fun z => eqV z y : Nat) : Int), H, I.tok _, ⟨s.toks, ?_⟩, q⟩
  show Value.int ((its.toArray.toList.countP (eqU y) : Nat) : Int) s.toks = Value.int ((ys.countP (fun z => eqV z y) : Nat) : Int) s.toks
  rw [ec]
end Kx
/-! A lambda handed to a def that tells by two except clauses. -/
namespace Kx
open PySem PySem.Spec PyProof.Rows L2 LamX
theorem takes00 {X : Cx} : Takes X (fun _ _ _ _ => False) := LamX.takes0
def Told2 (K : PySem.W.Frag) (C1 C2 : Addr) (r1 r2 : Str) (Q : VK) : XK := fun cls _ H' =>
  ∃ b, PySem.W.exmOne K cls (.ref C1) = some b ∧ (b = true → Q (.str r1) H') ∧ (b = false → ∃ b2, PySem.W.exmOne K cls (.ref C2) = some b2 ∧ (b2 = true → Q (.str r2) H') ∧ (b2 = false → False))
def TTold2 (K : PySem.W.Frag) (C1 C2 : Addr) (r1 r2 : Str) : (XK → Hp → VK → Prop) → Hp → VK → Prop := fun tl H Q => tl (Told2 K C1 C2 r1 r2 Q) H Q
theorem told_gives2 {X : Cx} {Ng : List Str} {x a e1 e2 q r1 r2 : Str} {sg : Scope} {g C1 C2 : Addr} {cdg : Value} {j1 j2 : Nat} {p1 p2 p3 p4 p5 p6 p7 p8 p9 p10 p11 p12 : Pos}
    (hg1 : sg.names.lookup e1 = some .globalImplicit) (hm1 : X.mg e1 = some (.ref C1)) (hd1 : (e1 == ("__debug__" : Str)) = false)
    (hg2 : sg.names.lookup e2 = some .globalImplicit) (hm2 : X.mg e2 = some (.ref C2)) (hd2 : (e2 == ("__debug__" : Str)) = false) (h0 : ∀ f : Addr, (L2.start Ng [V.ref f])[0]? = some (some (V.ref f))) :
    GivesTo X Ng x sg g cdg [.Try [.Return (some (.Call (.Name a p1) [] [] p2)) p3] [.ExceptHandler (some (.Name e1 p4)) none [.Return (some (.Constant (.str r1) j1 p5)) p6] p7, .ExceptHandler (some (.Name e2 p9)) none [.Return (some (.Constant (.str r2) j2 p10)) p11] p12] [] [] p8] a q (TTold2 X.K C1 C2 r1 r2) := by
  intro f c' s H Q tl act hc h
  have gl1 : Gl (cxOf C8.CX0 X.prog X.w X.K X.mg X.base Ng x sg g cdg X.A X.stack s H C8.E0).nox e1 := hg1
  have gl2 : Gl (cxOf C8.CX0 X.prog X.w X.K X.mg X.base Ng x sg g cdg X.A X.stack s H C8.E0).nox e2 := hg2
  refine ⟨_, pss_one (ps_try_many (X := (cxOf C8.CX0 X.prog X.w X.K X.mg X.base Ng x sg g cdg X.A X.stack s H C8.E0).nox)
      (tb := fun W D σ H => ∃ Ech : XK, (∀ cls d σ' H', Ech cls d H' → W cls d σ' H') ∧ σ[0]? = some (some (.ref f)) ∧ H c' = some (CodeO c' q) ∧ tl Ech H D.rt)
      rfl rfl takes00 (fun W pn xe tk _ => ?_) (.cons ⟨gl1, hd1, .inl hm1⟩ (fun a oe cls d pn _ _ => pss_one (ps_ret pe_str)) (.cons ⟨gl2, hd2, .inl hm2⟩ (fun a oe cls d pn _ _ => pss_one (ps_ret pe_str)) .nil))), ?_⟩
  · refine ⟨fun pins s' σ H' D I h' => ?_⟩
    obtain ⟨Ech, hW, h1, h2, h3⟩ := h'
    have hp := act W pn xe Ech p1 p2 tk hW
    have hq := pss_one (ps_ret (pos := p3) hp)
    exact hq.run pins s' σ H' D I ⟨h1, h2, h3⟩
  · refine ⟨Told2 X.K C1 C2 r1 r2 Q, fun cls d σ' H' ⟨b, e1, q1, q2⟩ => ⟨b, e1, fun hb a _ => q1 hb, fun hb => ?_⟩, h0 f, hc, h⟩
    obtain ⟨b2, e2, z1, z2⟩ := q2 hb
    exact ⟨b2, e2, fun hb a _ => z1 hb, fun hb => z2 hb⟩
end Kx
/-! try .. except X as e: what the suite may lean on. -/
namespace Kx
open PySem PySem.Spec PyProof.Rows L2 LamX
theorem takes_len {X : Cx} {W : WX} (t : Takes X W) : Takes X (fun cls d σ H => σ.length = X.N.length → W cls d σ H) := fun u s' ⟨a, B, sI, pins, σ, H, cls, d, e, I, nb, up, sky, na, os, ag, w⟩ =>
  t u s' ⟨a, B, sI, pins, σ, H, cls, d, e, I, nb, up, sky, na, os, ag, w I.len⟩
theorem pss_guard {X : Cx} {b : List Stmt} {p : Prop} {t : TS} (h : p → PSs X b t) : PSs X b (fun D σ H => p ∧ t D σ H) := ⟨fun pins s σ H D I h' => (h h'.1).run pins s σ H D I h'.2⟩
theorem pe_bmK {X : Cx} {K : PySem.W.Frag} (hK : X.K = K) {T : String} {name : Str} {id : String} {r : V → List V → Hp → VK → Prop} {o e : Expr} {es : List Expr} {to : TE} {t : TA} {apos cpos : Pos} (pa : PlainAttrs T) (slot : Slot T name id) (hty : typeOf (.builtin id) = pure (.type "method_descriptor")) (hm : MtR X id r) (ho : PE X o to) (ha : PA X (e :: es) t)
    (hbase : attributeBase o name X.env (eval o X.env) = eval o X.env := by rfl)
    (hfew : ((backTo cpos (starEach (e :: es) X.env)).all (fun x => !x.1) && (backToKw cpos (keywordEach [] X.env)).all (fun x => x.1.isSome)
      && decide ((e :: es).length + ([] : List Keyword).length + (if ([] : List Keyword).isEmpty then 0 else 1) < 30)) = true := by rfl)
    (hline : (apos.endLine == cpos.line) = true := by rfl) (hs : starEach (e :: es) X.env = (false, eval e X.env) :: starEach es X.env := by rfl) (hplain : (backTo cpos (starEach es X.env)).any (·.1) = false := by rfl) :
    PE X (.Call (.Attribute o name apos) (e :: es) [] cpos) (tBM K T r to t) := by
  subst hK
  exact pe_bm pa slot hty hm ho ha hbase hfew hline hs hplain
theorem pss_false {X : Cx} {b : List Stmt} : PSs X b (fun _ _ _ => False) := ⟨fun pins s σ H D I h => h.elim⟩
end Kx
/-! A list or a tuple walked; check_fact; pairs_of. -/
namespace Kx
open PySem PySem.Spec PyProof.Rows L2
/-- what a list or a tuple holds -/
def Sq (K : PySem.W.Frag) (H : Hp) (a : Addr) (xs : List V) : Prop := SqL K H a xs ∨ SqT K H a xs
def iSeq (K : PySem.W.Frag) (tl : TE) : TI := fun σ H R => tl σ H fun x H1 => ∃ a, x = .ref a ∧ (((∃ xs, SqL K H1 a xs) ∧ R (Itl K a) H1) ∨ ((∃ xs, SqT K H1 a xs) ∧ R (Itt K a) H1))
theorem pi_seq {X : Cx} {tg l : Expr} {tl : TE} (hl : PE X l tl) : PI X tg l (iSeq X.K tl) := by
  refine ⟨fun pins s σ H R I h => ?_⟩
  refine thn (hl.run pins s σ H _ I h) fun v s1 ⟨x, H1, I1, r1, q1⟩ => ?_
  obtain ⟨a, e, q⟩ := q1
  subst e
  cases r1
  rcases q with ⟨⟨xs, hq⟩, q⟩ | ⟨⟨xs, hq⟩, q⟩
  · obtain ⟨its, rv, p, hz⟩ := I1.list hq
    refine wpAny_pyIter_list p.isList ?_
    refine ⟨s1.heap.objs.size, [s1.heap.objs.size], _, _, H1, rfl, I1.kept (t' := s1.toks) fun b o e => Heap.get?_push_of_some _ e, turn_list a _, ⟨_, Heap.get?_push_size _ rfl, rfl, rfl⟩, fun b hb => ?_, q⟩
    have e : b = s1.heap.objs.size := by simpa using hb
    subst e
    exact I1.fpOk (Nat.le_refl _) (I1.hok.fresh (Nat.le_refl _))
  · obtain ⟨its, rv, p, hz⟩ := I1.tuple hq
    refine wpAny_pyIter_tuple (show s1.heap.IsTuple a its.toArray from p) ?_
    refine ⟨s1.heap.objs.size, [s1.heap.objs.size], _, _, H1, rfl, I1.kept (t' := s1.toks) fun b o e => Heap.get?_push_of_some _ e, turn_tuple a _, ⟨_, Heap.get?_push_size _ rfl, rfl, rfl⟩, fun b hb => ?_, q⟩
    have e : b = s1.heap.objs.size := by simpa using hb
    subst e
    exact I1.fpOk (Nat.le_refl _) (I1.hok.fresh (Nat.le_refl _))
end Kx
namespace K11
open PySem PySem.Spec PyProof.Rows L2 Kx
section
variable {P : Program} {w : World} {K : PySem.W.Frag} {mg : Str → Option Value} {base : Heap}
/-- what may be asked whether it is a fact -/
structure Fz (K : PySem.W.Frag) (H : Hp) (x : V) (d : PyData) : Prop where
  dx : Dx K H x d
  sh : shortD d = true
  sz : szD d ≤ 10000
  few : ∀ ps e, d = .tuple [.tuple ps, e] → ps.length ≤ 100
theorem Fz.up {H H' : Hp} {x : V} {d : PyData} (h : Fz K H x d) (s : Same H H') : Fz K H' x d := ⟨h.dx.up s, h.sh, h.sz, h.few⟩
def spCkF (K : PySem.W.Frag) (C : Addr) : Sp := fun vs H Q E => ∃ (x : V) (d : PyData), vs = [x] ∧ Fz K H x d ∧ (factD d = true → ∀ H', Same H H' → Q .non H') ∧ (factD d = false → ∀ H', Same H H' → E (.ref C) none H')
theorem ok_ckf (T : Tx K mg) : FnOk P w K mg base (L2.CX P w) 6 T.acheck_fact T.dcheck_fact ["value"] (spCkF K T.CInvalidFact) := by
  have nd := sc_check_fact.nd
  have G := ok_fact (P := P) (w := w) (base := base) T
  refine T.fcheck_fact.okX sc_check_fact (fun vs H Q E h => ?_) (fun cdv A outer s H vs Q E hr h => ?_)
  · obtain ⟨x, d, rfl, _⟩ := h
    rfl
  obtain ⟨x, d, rfl, hx, q1, q0⟩ := h
  refine ⟨_, (pss_one (ps_if (pt_not (pt_val (pe_call G (hr.mono (by omega)) (by rfl) T.gis_fact T.fis_fact.kp T.nis_fact .nil pass0 (pa_cons (pv 0) pa_nil)))) (pss_one (ps_raise rfl (takes_of rfl rfl rfl rfl) (pmk_own PySem.F.excBase_ValueError T.xInvalidFact T.gInvalidFact T.kInvalidFact (raises_own T.bInvalidFact T.tInvalidFact) (by rfl)))) pss_nil)), ?_⟩
  refine ⟨_, rfl, x, d, rfl, hx.dx, hx.sh, hx.sz, hx.few, fun H' sm => ⟨_, rfl, ?_⟩⟩
  cases t : factD d with
  | false => exact iteT (q0 t H' sm)
  | true => exact iteF (q1 t H' sm)
end
end K11
/-! Sorted lists of data. -/
namespace Kx
open PySem PySem.W PyProof.Rows
def ltR (x y : PyData) : Prop := dataLt x y = true
instance (x y : PyData) : Decidable (ltR x y) := inferInstanceAs (Decidable (_ = true))
theorem ltR_irrefl (x : PyData) : ¬ ltR x x := fun h => by
  have : dataLt x x = false := lex_irrefl _
  unfold ltR at h
  rw [this] at h
  cases h
theorem ltR_trans {x y z : PyData} (h1 : ltR x y) (h2 : ltR y z) : ltR x z := lex_trans _ _ _ h1 h2
theorem ltR_asymm {x y : PyData} (h1 : ltR x y) (h2 : ltR y x) : False := ltR_irrefl x (ltR_trans h1 h2)
/-- two sorted lists with the same members are one -/
theorem uniq_sorted {α : Type} {r : α → α → Prop} (irr : ∀ x, ¬ r x x) (tr : ∀ {x y z}, r x y → r y z → r x z) : ∀ {l m : List α}, l.Pairwise r → m.Pairwise r → (∀ x, x ∈ l ↔ x ∈ m) → l = m
  | [], [], _, _, _ => rfl
  | [], y :: m, _, _, h => by cases (h y).mpr List.mem_cons_self
  | x :: l, [], _, _, h => by cases (h x).mp List.mem_cons_self
  | x :: l, y :: m, hl, hm, h => by
    rw [List.pairwise_cons] at hl hm
    have e : x = y := by
      rcases List.mem_cons.mp ((h x).mp List.mem_cons_self) with e | h1
      · exact e
      · rcases List.mem_cons.mp ((h y).mpr List.mem_cons_self) with e | h2
        · exact e.symm
        · exact absurd (tr (hl.1 y h2) (hm.1 x h1)) (irr x)
    subst e
    have ih : l = m := uniq_sorted irr tr hl.2 hm.2 fun z => by
      constructor
      · intro hz
        rcases List.mem_cons.mp ((h z).mp (List.mem_cons_of_mem _ hz)) with e | h1
        · subst e
          exact absurd (hl.1 z hz) (irr z)
        · exact h1
      · intro hz
        rcases List.mem_cons.mp ((h z).mpr (List.mem_cons_of_mem _ hz)) with e | h1
        · subst e
          exact absurd (hm.1 z hz) (irr z)
        · exact h1
    rw [ih]
theorem uniq_data {l m : List PyData} (hl : l.Pairwise ltR) (hm : m.Pairwise ltR) (h : ∀ x, x ∈ l ↔ x ∈ m) : l = m := uniq_sorted ltR_irrefl ltR_trans hl hm h
/-- what sorted leaves, where no two are alike -/
theorem sort_strict {β : Type} {k : β → PyData} {l : List β} (nd : (l.map fun b => keyToks (k b)).Nodup) : (l.mergeSort (dataLe false k)).Pairwise fun a b => ltR (k a) (k b) := by
  have tr : ∀ a b c : β, dataLe false k a b = true → dataLe false k b c = true → dataLe false k a c = true := fun a b c h1 h2 => by
    have h1 : dataLt (k b) (k a) = false := by simpa [dataLe_eq] using h1
    have h2 : dataLt (k c) (k b) = false := by simpa [dataLe_eq] using h2
    rw [dataLe_eq]
    show (!dataLt (k c) (k a)) = true
    cases h : dataLt (k c) (k a) with
    | false => rfl
    | true =>
      rcases lex_negTrans _ (keyToks (k b)) _ h with z | z
      · exact absurd (show dataLt (k c) (k b) = true from z) (by rw [h2]; decide)
      · exact absurd (show dataLt (k b) (k a) = true from z) (by rw [h1]; decide)
  have tot : ∀ a b : β, (dataLe false k a b || dataLe false k b a) = true := fun a b => by
    rw [dataLe_eq]
    show (!dataLt (k b) (k a) || !dataLt (k a) (k b)) = true
    cases h : dataLt (k b) (k a) with
    | false => rfl
    | true =>
      cases h2 : dataLt (k a) (k b) with
      | false => rfl
      | true => exact (ltR_asymm (x := k b) (y := k a) h h2).elim
  have p := List.pairwise_mergeSort tr tot l
  have nd2 : ((l.mergeSort (dataLe false k)).map fun b => keyToks (k b)).Nodup := ((List.mergeSort_perm l _).map _).nodup_iff.mpr nd
  rw [List.Nodup, List.pairwise_map] at nd2
  refine List.Pairwise.imp₂ (fun {a b} h1 h2 => ?_) p nd2
  have h1 : dataLt (k b) (k a) = false := by simpa [dataLe_eq] using h1
  show dataLt (k a) (k b) = true
  cases h : dataLt (k a) (k b) with
  | true => rfl
  | false => exact absurd (lex_total _ _ h h1) h2
end Kx
/-! The order of texts is the order of terms. -/
namespace K11
open PySem PySem.Spec PyProof.Rows L2 Kx PySem.W
/-- what may stand behind a term -/
def TailOk : List Nat → Prop
  | [] => True
  | c :: _ => c < 97
theorem nm_ord : ∀ (x y : List Nat), (∀ c, c ∈ x → 97 ≤ c) → (∀ c, c ∈ y → 97 ≤ c) → x ≠ y → ∀ u v, TailOk u → TailOk v → (x ++ u < y ++ v ↔ x < y)
  | [], [], _, _, ne, _, _, _, _ => absurd rfl ne
  | [], c :: y, _, hy, _, u, v, hu, _ => by
    have hc := hy c List.mem_cons_self
    refine iff_of_true ?_ (by simp)
    cases u with
    | nil => simp
    | cons d u =>
      have hd : d < 97 := hu
      simp only [List.nil_append, List.cons_append, List.cons_lt_cons_iff]
      omega
  | c :: x, [], hx, _, _, u, v, _, hv => by
    have hc := hx c List.mem_cons_self
    refine iff_of_false ?_ (by simp)
    cases v with
    | nil => simp
    | cons d v =>
      have hd : d < 97 := hv
      simp only [List.nil_append, List.cons_append, List.cons_lt_cons_iff]
      omega
  | c :: x, d :: y, hx, hy, ne, u, v, hu, hv => by
    simp only [List.cons_append, List.cons_lt_cons_iff]
    by_cases e : c = d
    · subst e
      have ih := nm_ord x y (fun z hz => hx z (List.mem_cons_of_mem _ hz)) (fun z hz => hy z (List.mem_cons_of_mem _ hz)) (fun z => ne (by rw [z])) u v hu hv
      simp [ih]
    · simp [e]
theorem pre_ord : ∀ (x u v : List Nat), (x ++ u < x ++ v ↔ u < v)
  | [], _, _ => Iff.rfl
  | c :: x, u, v => by
    have ih := pre_ord x u v
    simp only [List.cons_append, List.cons_lt_cons_iff]
    simp [ih]
theorem letters {x : Str} (h : isNm x = true) : ∀ c, c ∈ x.cps.toList → 97 ≤ c := fun c hc => by
  simp only [isNm, Bool.and_eq_true, decide_eq_true_eq] at h
  have := (Array.all_eq_true'.mp h.2) c (Array.mem_toList_iff.mp hc)
  simp only [letter, Bool.and_eq_true, decide_eq_true_eq] at this
  exact this.1
mutual
theorem alike_formed : ∀ (d e : PyData), formedD d = true → formedD e = true → alike d e = true
  | .tuple (a :: ds), e, hd, he => by
    obtain ⟨y, es, rfl, _, _, hes⟩ := formed_shape he
    obtain ⟨x, ds', ed, _, _, hds⟩ := formed_shape hd
    injection ed with ed
    injection ed with e1 e2
    subst e1 e2
    simp only [alike, alikeAll, Bool.true_and]
    exact alike_formedAll ds es hds hes
  | .tuple [], _, hd, _ => by cases hd
  | .none, _, hd, _ => by cases hd
  | .bool _, _, hd, _ => by cases hd
  | .int _, _, hd, _ => by cases hd
  | .str _, _, hd, _ => by cases hd
  | .list _, _, hd, _ => by cases hd
  | .dict _, _, hd, _ => by cases hd
theorem alike_formedAll : ∀ (ds es : List PyData), formedAll ds = true → formedAll es = true → alikeAll ds es = true
  | [], _, _, _ => by simp [alikeAll]
  | _ :: _, [], _, _ => by simp [alikeAll]
  | d :: ds, e :: es, hd, he => by
    rw [formedAll, Bool.and_eq_true] at hd he
    rw [alikeAll, alike_formed d e hd.1 he.1, alike_formedAll ds es hd.2 he.2]
    rfl
end
mutual
theorem eqv_formed : ∀ (d e : PyData), formedD d = true → formedD e = true → (PyData.eqv d e = true ↔ d = e)
  | .tuple (a :: ds), e, hd, he => by
    obtain ⟨y, es, rfl, _, _, hes⟩ := formed_shape he
    obtain ⟨x, ds', ed, _, _, hds⟩ := formed_shape hd
    injection ed with ed
    injection ed with e1 e2
    subst e1 e2
    have ih := eqv_formedAll ds es hds hes
    rw [PyData.eqv, PyData.eqvAll, PyData.eqv, Bool.and_eq_true, ih, beq_iff_eq]
    simp
  | .tuple [], _, hd, _ => by cases hd
  | .none, _, hd, _ => by cases hd
  | .bool _, _, hd, _ => by cases hd
  | .int _, _, hd, _ => by cases hd
  | .str _, _, hd, _ => by cases hd
  | .list _, _, hd, _ => by cases hd
  | .dict _, _, hd, _ => by cases hd
theorem eqv_formedAll : ∀ (ds es : List PyData), formedAll ds = true → formedAll es = true → (PyData.eqvAll ds es = true ↔ ds = es)
  | [], [], _, _ => by simp [PyData.eqvAll]
  | [], _ :: _, _, _ => by simp [PyData.eqvAll]
  | _ :: _, [], _, _ => by simp [PyData.eqvAll]
  | d :: ds, e :: es, hd, he => by
    rw [formedAll, Bool.and_eq_true] at hd he
    rw [PyData.eqvAll, Bool.and_eq_true, eqv_formed d e hd.1 he.1, eqv_formedAll ds es hd.2 he.2]
    simp
end
/-- some rows of which each name has one number of places -/
abbrev Fn2 (a b : List NK) : Prop := Func (a ++ b)
theorem Func.sub {l m : List NK} (h : Func m) (s : ∀ p, p ∈ l → p ∈ m) : Func l := fun p hp q hq => h p (s p hp) q (s q hq)
mutual
theorem tx_ord : ∀ (d e : PyData), formedD d = true → formedD e = true → Func (rowsD d ++ rowsD e) → d ≠ e → ∀ u v, TailOk u → TailOk v → (tx d ++ u < tx e ++ v ↔ dataLt d e = true)
  | .tuple (a :: ds), e, hd, he, F, ne, u, v, hu, hv => by
    obtain ⟨y, es, rfl, _, hy, hes⟩ := formed_shape he
    obtain ⟨x, ds', ed, _, hx, hds⟩ := formed_shape hd
    injection ed with ed
    injection ed with e1 e2
    subst e1 e2
    rw [dataLt_tuple, dataLt_cons (by simp [alike])]
    simp only [PyData.eqv, beq_iff_eq]
    by_cases exy : x = y
    · subst exy
      rw [if_pos rfl]
      have lenE : ds.length = es.length := F (x, ds.length) (List.mem_append_left _ (by simp [rowsD, headD])) (x, es.length) (List.mem_append_right _ (by simp [rowsD, headD])) rfl
      have ned : ds ≠ es := fun z => ne (by rw [z])
      have FA : Func (rowsAll ds ++ rowsAll es) := F.sub fun p hp => by
        rcases List.mem_append.mp hp with h | h
        · exact List.mem_append_left _ (by rw [rowsD]; exact List.mem_cons_of_mem _ h)
        · exact List.mem_append_right _ (by rw [rowsD]; exact List.mem_cons_of_mem _ h)
      show ((x.cps.toList ++ txA ds) ++ u < (x.cps.toList ++ txA es) ++ v ↔ _)
      rw [List.append_assoc, List.append_assoc, pre_ord]
      exact txA_ord ds es hds hes lenE FA ned u v hu hv
    · rw [if_neg exy, dataLt_str, decide_eq_true_iff]
      show ((x.cps.toList ++ txA ds) ++ u < (y.cps.toList ++ txA es) ++ v ↔ _)
      rw [List.append_assoc, List.append_assoc]
      have tl : ∀ (l : List PyData) (w : List Nat), TailOk w → TailOk (txA l ++ w) := fun l w hw => by
        cases l with
        | nil => exact hw
        | cons _ _ => show 40 < 97; decide
      exact nm_ord _ _ (letters hx) (letters hy) (fun z => exy (str_of_cps z)) _ _ (tl ds u hu) (tl es v hv)
  | .tuple [], _, hd, _, _, _, _, _, _, _ => by cases hd
  | .none, _, hd, _, _, _, _, _, _, _ => by cases hd
  | .bool _, _, hd, _, _, _, _, _, _, _ => by cases hd
  | .int _, _, hd, _, _, _, _, _, _, _ => by cases hd
  | .str _, _, hd, _, _, _, _, _, _, _ => by cases hd
  | .list _, _, hd, _, _, _, _, _, _, _ => by cases hd
  | .dict _, _, hd, _, _, _, _, _, _, _ => by cases hd
theorem txA_ord : ∀ (ds es : List PyData), formedAll ds = true → formedAll es = true → ds.length = es.length → Func (rowsAll ds ++ rowsAll es) → ds ≠ es → ∀ u v, TailOk u → TailOk v → (txA ds ++ u < txA es ++ v ↔ PyProof.Rows.lexLt itemOrd (keyToksAll ds) (keyToksAll es) = true)
  | [], [], _, _, _, _, ne, _, _, _, _ => absurd rfl ne
  | [], _ :: _, _, _, h, _, _, _, _, _, _ => by cases h
  | _ :: _, [], _, _, h, _, _, _, _, _, _ => by cases h
  | d :: ds, e :: es, hd, he, len, F, ne, u, v, hu, hv => by
    rw [formedAll, Bool.and_eq_true] at hd he
    have F1 : Func (rowsD d ++ rowsD e) := F.sub fun p hp => by
      rcases List.mem_append.mp hp with h | h
      · exact List.mem_append_left _ (by rw [rowsAll]; exact List.mem_append_left _ h)
      · exact List.mem_append_right _ (by rw [rowsAll]; exact List.mem_append_left _ h)
    have F2 : Func (rowsAll ds ++ rowsAll es) := F.sub fun p hp => by
      rcases List.mem_append.mp hp with h | h
      · exact List.mem_append_left _ (by rw [rowsAll]; exact List.mem_append_right _ h)
      · exact List.mem_append_right _ (by rw [rowsAll]; exact List.mem_append_right _ h)
    have len2 : ds.length = es.length := by simpa using len
    rw [dataLt_cons (alike_formed d e hd.1 he.1)]
    show (40 :: ((tx d ++ (txM ds ++ [41])) ++ u) < 40 :: ((tx e ++ (txM es ++ [41])) ++ v) ↔ _)
    rw [List.cons_lt_cons_iff]
    have e40 : ∀ p : Prop, ((40 : Nat) < 40 ∨ 40 = 40 ∧ p) ↔ p := fun p => by simp
    rw [e40]
    simp only [List.append_assoc]
    by_cases ede : d = e
    · subst ede
      rw [if_pos ((eqv_formed d d hd.1 hd.1).mpr rfl), pre_ord]
      exact txM_ord ds es hd.2 he.2 len2 F2 (fun z => ne (by rw [z])) _ _ (show 41 < 97 by decide) (show 41 < 97 by decide)
    · rw [if_neg (fun z => ede ((eqv_formed d e hd.1 he.1).mp z))]
      have tl : ∀ (l : List PyData) (w : List Nat), TailOk (txM l ++ (41 :: w)) := fun l w => by
        cases l with
        | nil => show 41 < 97; decide
        | cons _ _ => show 44 < 97; decide
      exact tx_ord d e hd.1 he.1 F1 ede _ _ (tl ds u) (tl es v)
theorem txM_ord : ∀ (ds es : List PyData), formedAll ds = true → formedAll es = true → ds.length = es.length → Func (rowsAll ds ++ rowsAll es) → ds ≠ es → ∀ u v, TailOk u → TailOk v → (txM ds ++ u < txM es ++ v ↔ PyProof.Rows.lexLt itemOrd (keyToksAll ds) (keyToksAll es) = true)
  | [], [], _, _, _, _, ne, _, _, _, _ => absurd rfl ne
  | [], _ :: _, _, _, h, _, _, _, _, _, _ => by cases h
  | _ :: _, [], _, _, h, _, _, _, _, _, _ => by cases h
  | d :: ds, e :: es, hd, he, len, F, ne, u, v, hu, hv => by
    rw [formedAll, Bool.and_eq_true] at hd he
    have F1 : Func (rowsD d ++ rowsD e) := F.sub fun p hp => by
      rcases List.mem_append.mp hp with h | h
      · exact List.mem_append_left _ (by rw [rowsAll]; exact List.mem_append_left _ h)
      · exact List.mem_append_right _ (by rw [rowsAll]; exact List.mem_append_left _ h)
    have F2 : Func (rowsAll ds ++ rowsAll es) := F.sub fun p hp => by
      rcases List.mem_append.mp hp with h | h
      · exact List.mem_append_left _ (by rw [rowsAll]; exact List.mem_append_right _ h)
      · exact List.mem_append_right _ (by rw [rowsAll]; exact List.mem_append_right _ h)
    have len2 : ds.length = es.length := by simpa using len
    rw [dataLt_cons (alike_formed d e hd.1 he.1)]
    show (44 :: ((tx d ++ txM ds) ++ u) < 44 :: ((tx e ++ txM es) ++ v) ↔ _)
    rw [List.cons_lt_cons_iff]
    have e40 : ∀ p : Prop, ((44 : Nat) < 44 ∨ 44 = 44 ∧ p) ↔ p := fun p => by simp
    rw [e40]
    simp only [List.append_assoc]
    by_cases ede : d = e
    · subst ede
      rw [if_pos ((eqv_formed d d hd.1 hd.1).mpr rfl), pre_ord]
      exact txM_ord ds es hd.2 he.2 len2 F2 (fun z => ne (by rw [z])) u v hu hv
    · rw [if_neg (fun z => ede ((eqv_formed d e hd.1 he.1).mp z))]
      have tl : ∀ (l : List PyData) (w : List Nat), TailOk w → TailOk (txM l ++ w) := fun l w hw => by
        cases l with
        | nil => exact hw
        | cons _ _ => show 44 < 97; decide
      exact tx_ord d e hd.1 he.1 F1 ede _ _ (tl ds u hu) (tl es v hv)
end
/-- THE ORDER -/
theorem tx_lt {d e : PyData} (hd : formedD d = true) (he : formedD e = true) (F : Func (rowsD d ++ rowsD e)) : tx d < tx e ↔ ltR d e := by
  by_cases h : d = e
  · subst h
    exact iff_of_false (List.lt_irrefl _) (ltR_irrefl d)
  · have := tx_ord d e hd he F h [] [] trivial trivial
    rwa [List.append_nil, List.append_nil] at this
theorem keyToks_formed {d e : PyData} (hd : formedD d = true) (he : formedD e = true) (h : keyToks d = keyToks e) : d = e := by
  have al := alike_formed d e hd he
  cases q : PyData.eqv d e with
  | true => exact (eqv_formed d e hd he).mp q
  | false =>
    have z := (toks_eqv d e al).2 q [] [.inl 0]
    rw [h, List.append_nil] at z
    have z1 : PyProof.Rows.lexLt itemOrd (keyToks e) (keyToks e) = false := lex_irrefl _
    have z2 := lex_pre (keyToks e) [] [.inl 0]
    rw [List.append_nil, z, z1] at z2
    exact absurd z2 (by decide)
theorem Func.swap {a b : List NK} (F : Func (a ++ b)) : Func (b ++ a) := F.sub fun p hp => by
  rcases List.mem_append.mp hp with h | h
  · exact List.mem_append_right _ h
  · exact List.mem_append_left _ h
theorem tx_inj {d e : PyData} (hd : formedD d = true) (he : formedD e = true) (F : Func (rowsD d ++ rowsD e)) (h : tx d = tx e) : d = e := by
  have n1 : ¬ ltR d e := fun z => List.lt_irrefl _ (h ▸ (tx_lt hd he F).mpr z)
  have n2 : ¬ ltR e d := fun z => List.lt_irrefl _ (h ▸ (tx_lt he hd F.swap).mpr z)
  refine keyToks_formed hd he (lex_total (O := itemOrd) (keyToks d) (keyToks e) ?_ ?_)
  · exact Bool.eq_false_iff.mpr n1
  · exact Bool.eq_false_iff.mpr n2
theorem ltR_tri {d e : PyData} (hd : formedD d = true) (he : formedD e = true) : ltR d e ∨ d = e ∨ ltR e d := by
  cases h1 : dataLt d e with
  | true => exact .inl h1
  | false =>
    cases h2 : dataLt e d with
    | true => exact .inr (.inr h2)
    | false => exact .inr (.inl (keyToks_formed hd he (lex_total (O := itemOrd) (keyToks d) (keyToks e) h1 h2)))
end K11
/-! What stands in a dict behind d[k] = v. -/
namespace Kx
open PySem PySem.Spec PyProof.Rows L2
section
variable {κ : Type} [DecidableEq κ] {kvs : List (κ × V)} {k : κ} {v : V}
theorem any_key : (kvs.any fun kv => decide (kv.1 = k)) = true ↔ k ∈ kvs.map Prod.fst := by
  rw [List.any_eq_true, List.mem_map]
  exact ⟨fun ⟨p, hp, e⟩ => ⟨p, hp, of_decide_eq_true e⟩, fun ⟨p, hp, e⟩ => ⟨p, hp, decide_eq_true e⟩⟩
theorem fst_put_in (h : k ∈ kvs.map Prod.fst) : (putK kvs k v).map Prod.fst = kvs.map Prod.fst := by
  unfold putK
  rw [if_pos (any_key.mpr h), List.map_map]
  refine List.map_congr_left fun p _ => ?_
  show (if p.1 = k then (p.1, v) else p).1 = p.1
  split <;> rfl
theorem fst_put_new (h : k ∉ kvs.map Prod.fst) : (putK kvs k v).map Prod.fst = kvs.map Prod.fst ++ [k] := by
  unfold putK
  rw [if_neg (fun z => h (any_key.mp z)), List.map_append]
  rfl
theorem nodup_put (nd : (kvs.map Prod.fst).Nodup) : ((putK kvs k v).map Prod.fst).Nodup := by
  by_cases h : k ∈ kvs.map Prod.fst
  · rw [fst_put_in h]
    exact nd
  · rw [fst_put_new h, List.nodup_append]
    exact ⟨nd, by simp, fun a ha b hb => by rw [List.mem_singleton.mp hb]; intro e; exact h (e ▸ ha)⟩
theorem mem_fst_put {x : κ} : x ∈ (putK kvs k v).map Prod.fst ↔ x ∈ kvs.map Prod.fst ∨ x = k := by
  by_cases h : k ∈ kvs.map Prod.fst
  · rw [fst_put_in h]
    exact ⟨.inl, fun z => z.elim id fun e => e ▸ h⟩
  · rw [fst_put_new h, List.mem_append, List.mem_singleton]
theorem mem_put {p : κ × V} (h : p ∈ putK kvs k v) : p = (k, v) ∨ (p ∈ kvs ∧ p.1 ≠ k) := by
  unfold putK at h
  split at h
  · obtain ⟨q, hq, rfl⟩ := List.mem_map.mp h
    by_cases e : q.1 = k
    · rw [if_pos e, e]
      exact .inl rfl
    · rw [if_neg e]
      exact .inr ⟨hq, e⟩
  · rename_i n
    rcases List.mem_append.mp h with h | h
    · exact .inr ⟨h, fun e => n (any_key.mpr (List.mem_map.mpr ⟨p, h, e⟩))⟩
    · exact .inl (List.mem_singleton.mp h)
theorem mem_of_val : ∀ {kvs : List (κ × V)}, valV kvs k = some v → (k, v) ∈ kvs
  | [], h => by simp [valV_nil] at h
  | p :: kvs, h => by
    by_cases e : p.1 = k
    · rw [valV_pos e] at h
      obtain ⟨a, b⟩ := p
      cases h
      cases e
      exact List.mem_cons_self
    · rw [valV_neg e] at h
      exact List.mem_cons_of_mem _ (mem_of_val h)
theorem val_of_mem : ∀ {kvs : List (κ × V)}, (kvs.map Prod.fst).Nodup → (k, v) ∈ kvs → valV kvs k = some v
  | p :: kvs, nd, h => by
    rw [List.map_cons, List.nodup_cons] at nd
    rcases List.mem_cons.mp h with e | h
    · subst e
      exact valV_pos rfl
    · have ne : p.1 ≠ k := fun z => nd.1 (by rw [z]; exact List.mem_map.mpr ⟨_, h, rfl⟩)
      rw [valV_neg ne]
      exact val_of_mem nd.2 h
end
end Kx
/-! pairs_of: how many stay. -/
namespace K11
open PySem PySem.Spec PyProof.Rows L2 Kx
section
variable {P : Program} {w : World} {K : PySem.W.Frag} {mg : Str → Option Value} {base : Heap}
/-- both sides have one text -/
def eqC : PyData → Prop
  | .tuple [a, b] => tx a = tx b
  | _ => True
theorem tx_tri {l m : List Nat} (h1 : ¬ l < m) (h2 : ¬ m < l) : l = m := by
  exact List.le_antisymm (List.not_lt.mp h2) (List.not_lt.mp h1)
theorem Sq.up {H H' : Hp} {a : Addr} {xs : List V} (s : Same H H') (h : Sq K H a xs) : Sq K H' a xs := h.elim (fun h => .inl (s.seq h)) fun h => .inr (Same.tup s h)
theorem put_ne {kvs : List (List Key × V)} {k : List Key} {v : V} : putK kvs k v ≠ [] := by
  unfold putK
  split
  · rename_i h
    intro z
    rw [List.map_eq_nil_iff.mp z] at h
    cases h
  · simp
theorem put_keys {kvs : List (List Key × V)} {k : List Key} {v : V} (p : List Key × V) (hp : p ∈ putK kvs k v) : p.1 = k ∨ ∃ q, q ∈ kvs ∧ q.1 = p.1 := by
  unfold putK at hp
  split at hp
  · obtain ⟨q, hq, rfl⟩ := List.mem_map.mp hp
    refine .inr ⟨q, hq, ?_⟩
    split <;> rfl
  · rcases List.mem_append.mp hp with h | h
    · exact .inr ⟨p, h, rfl⟩
    · rw [List.mem_singleton.mp h]
      exact .inl rfl
def PoKeys (kvs : List (List Key × V)) : Prop := ∀ p, p ∈ kvs → ∃ x y : Str, p.1 = [Sum.inr x, Sum.inr y]
theorem po_put {kvs : List (List Key × V)} {x y : Str} {v : V} (h : PoKeys kvs) : PoKeys (putK kvs [Sum.inr x, Sum.inr y] v) := fun p hp => by
  rcases put_keys p hp with e | ⟨q, hq, e⟩
  · exact ⟨x, y, e⟩
  · rw [← e]
    exact h q hq
theorem val_mem {k : List Key} : ∀ {kvs : List (List Key × V)}, k ∈ kvs.map Prod.fst → ∃ v, valV kvs k = some v
  | p :: l, h => by
    by_cases e : p.1 = k
    · exact ⟨p.2, valV_pos e⟩
    · rw [List.map_cons, List.mem_cons] at h
      rcases h with h | h
      · exact absurd h.symm e
      · rw [valV_neg e]
        exact val_mem h
def ForR (J : It) (g : TG) (tb : TS) (D : L2.Ends) (σ : L2.St) (H : Hp) : Prop := ∃ W : Nat → Nat → L2.St → Hp → Prop, (∃ m, W 0 m σ H) ∧ ∀ i m σ H, W i m σ H →
  (J.stop i H ∧ D.nx σ H) ∨ (J.go i H ∧ ∃ N : L2.St → Hp → Prop, (∀ σ' H', N σ' H' → ∃ m', m' < m ∧ W (i + 1) m' σ' H') ∧ ∀ x H', J.yld i H x H' → g x σ H' fun σ2 H2 => tb { D with nx := N, ct := N, bk := D.nx } σ2 H2)
theorem for_seq {a : Addr} {xs : List V} {g : TG} {tb : TS} {D : L2.Ends} {σ : L2.St} {H H0 : Hp} (h : Sq K H0 a xs) (s0 : Same H0 H) (Pv : Nat → L2.St → Hp → Prop) (h0 : Pv 0 σ H) (hl : ∀ i σ G, i ≤ xs.length → Pv i σ G → Same H0 G)
    (hs : ∀ i x σ H, xs[i]? = some x → Pv i σ H → g x σ H fun σ2 H2 => tb { D with nx := Pv (i + 1), ct := Pv (i + 1), bk := D.nx } σ2 H2) (hd : ∀ σ H, Pv xs.length σ H → D.nx σ H) :
    ((∃ xs, SqL K H a xs) ∧ ForR (Itl K a) g tb D σ H) ∨ ((∃ xs, SqT K H a xs) ∧ ForR (Itt K a) g tb D σ H) := by
  rcases h with h | h
  · exact .inl ⟨⟨xs, s0.seq h⟩, for_list Pv h0 (fun i σ G hi p => (hl i σ G hi p).seq h) hs hd⟩
  · exact .inr ⟨⟨xs, Same.tup s0 h⟩, for_tup Pv h0 (fun i σ G hi p => Same.tup (hl i σ G hi p) h) hs hd⟩
/-- a pair of ds, turned so that the lesser text comes first -/
def Nz (ds : List PyData) (a b : PyData) : Prop := tx a < tx b ∧ (PyData.tuple [a, b] ∈ ds ∨ PyData.tuple [b, a] ∈ ds)
structure Prs (ds L : List PyData) : Prop where
  mem : ∀ z, z ∈ L ↔ ∃ a b, z = .tuple [a, b] ∧ Nz ds a b
  srt : L.Pairwise ltR
def Cpl (d : PyData) : Prop := ∃ a b, d = .tuple [a, b] ∧ Wr a ∧ Wr b
def keyP (a b : PyData) : List Key := [Sum.inr (tS (tx a)), Sum.inr (tS (tx b))]
def keyL : PyData → List Key
  | .tuple [a, b] => keyP a b
  | _ => []
theorem tS_inj {l m : List Nat} (h : tS l = tS m) : l = m := by
  have := congrArg (fun x : Str => x.cps.toList) h
  simpa [tS] using this
theorem keyP_inj {a b c d : PyData} (h : keyP a b = keyP c d) : tx a = tx c ∧ tx b = tx d := by
  unfold keyP at h
  simp only [List.cons.injEq, and_true, Sum.inr.injEq] at h
  exact ⟨tS_inj h.1, tS_inj h.2⟩
/-- all terms of ds formed, each name with one number of places -/
structure Cns (ds : List PyData) : Prop where
  c : ∀ d, d ∈ ds → Cpl d
  f : Func (rowsAll (sidesD ds))
theorem rows_side {ds : List PyData} : ∀ {x : PyData}, x ∈ ds → ∀ p, p ∈ rowsD x → p ∈ rowsAll ds := fun {x} hx p hp => by
  induction ds with
  | nil => cases hx
  | cons d ds ih =>
    rw [rowsAll]
    rcases List.mem_cons.mp hx with rfl | h
    · exact List.mem_append_left _ hp
    · exact List.mem_append_right _ (ih h)
theorem Cns.side {ds : List PyData} (C : Cns ds) {a b : PyData} (h : PyData.tuple [a, b] ∈ ds ∨ PyData.tuple [b, a] ∈ ds) : (formedD a = true ∧ formedD b = true) ∧ a ∈ sidesD ds ∧ b ∈ sidesD ds := by
  rcases h with h | h
  · obtain ⟨a', b', e, wa, wb⟩ := C.c _ h
    simp only [PyData.tuple.injEq, List.cons.injEq, and_true] at e
    obtain ⟨rfl, rfl⟩ := e
    exact ⟨⟨wa.f, wb.f⟩, List.mem_flatMap.mpr ⟨_, h, by simp [sidesOf]⟩, List.mem_flatMap.mpr ⟨_, h, by simp [sidesOf]⟩⟩
  · obtain ⟨b', a', e, wb, wa⟩ := C.c _ h
    simp only [PyData.tuple.injEq, List.cons.injEq, and_true] at e
    obtain ⟨rfl, rfl⟩ := e
    exact ⟨⟨wa.f, wb.f⟩, List.mem_flatMap.mpr ⟨_, h, by simp [sidesOf]⟩, List.mem_flatMap.mpr ⟨_, h, by simp [sidesOf]⟩⟩
theorem Cns.two {ds : List PyData} (C : Cns ds) {x y : PyData} (hx : x ∈ sidesD ds) (hy : y ∈ sidesD ds) : Func (rowsD x ++ rowsD y) := C.f.sub fun p hp => by
  rcases List.mem_append.mp hp with h | h
  · exact rows_side hx p h
  · exact rows_side hy p h
theorem nz_mono {l m : List PyData} (s : ∀ z, z ∈ l → z ∈ m) {a b : PyData} (h : Nz l a b) : Nz m a b := ⟨h.1, h.2.imp (s _) (s _)⟩
theorem nz_inj {ds : List PyData} (C : Cns ds) {a b c d : PyData} (h1 : Nz ds a b) (h2 : Nz ds c d) (e : keyP a b = keyP c d) : a = c ∧ b = d := by
  obtain ⟨e1, e2⟩ := keyP_inj e
  obtain ⟨⟨fa, fb⟩, ma, mb⟩ := C.side h1.2
  obtain ⟨⟨fc, fd⟩, mc, md⟩ := C.side h2.2
  exact ⟨tx_inj fa fc (C.two ma mc) e1, tx_inj fb fd (C.two mb md) e2⟩
theorem lt_str_key {x y : List Nat} : PySem.W.dataLt (.str (tS x)) (.str (tS y)) = decide (x < y) := by
  rw [PySem.W.dataLt_str]
  refine decide_eq_decide.mpr ?_
  simp [tS]
/-- keys in the order of their pairs -/
theorem key_lt {ds : List PyData} (C : Cns ds) {a b c d : PyData} (h1 : Nz ds a b) (h2 : Nz ds c d) : ltR (tupD (keyP a b)) (tupD (keyP c d)) ↔ ltR (.tuple [a, b]) (.tuple [c, d]) := by
  obtain ⟨⟨fa, fb⟩, ma, mb⟩ := C.side h1.2
  obtain ⟨⟨fc, fd⟩, mc, md⟩ := C.side h2.2
  unfold ltR
  rw [show tupD (keyP a b) = .tuple [.str (tS (tx a)), .str (tS (tx b))] from rfl, show tupD (keyP c d) = .tuple [.str (tS (tx c)), .str (tS (tx d))] from rfl]
  rw [PySem.W.dataLt_pair (by simp [PySem.W.alike]) (by simp [PySem.W.alike]), PySem.W.dataLt_pair (alike_formed a c fa fc) (alike_formed b d fb fd)]
  have q1 : (PyData.eqv (.str (tS (tx a))) (.str (tS (tx c))) = true) ↔ (PyData.eqv a c = true) := by
    rw [PyData.eqv, beq_iff_eq, eqv_formed a c fa fc]
    exact ⟨fun e => tx_inj fa fc (C.two ma mc) (tS_inj e), fun e => by rw [e]⟩
  have q2 : (PyData.eqv (.str (tS (tx b))) (.str (tS (tx d))) = true) ↔ (PyData.eqv b d = true) := by
    rw [PyData.eqv, beq_iff_eq, eqv_formed b d fb fd]
    exact ⟨fun e => tx_inj fb fd (C.two mb md) (tS_inj e), fun e => by rw [e]⟩
  rw [lt_str_key, lt_str_key]
  have l1 := tx_lt fa fc (C.two ma mc)
  have l2 := tx_lt fb fd (C.two mb md)
  unfold ltR at l1 l2
  by_cases h1 : PyData.eqv a c = true
  · rw [if_pos h1, if_pos (q1.mpr h1)]
    by_cases h2 : PyData.eqv b d = true
    · rw [if_pos h2, if_pos (q2.mpr h2)]
    · rw [if_neg h2, if_neg (fun z => h2 (q2.mp z)), decide_eq_true_iff]
      exact l2
  · rw [if_neg h1, if_neg (fun z => h1 (q1.mp z)), decide_eq_true_iff]
    exact l1
/-- the dict of pairs behind some couples -/
structure PoD (K : PySem.W.Frag) (G : Hp) (ds : List PyData) (kvs : List (List Key × V)) : Prop where
  nd : (kvs.map Prod.fst).Nodup
  at_ : ∀ p, p ∈ kvs → ∃ a b, p.1 = keyP a b ∧ Dx K G p.2 (.tuple [a, b]) ∧ Nz ds a b
  all : ∀ a b, Nz ds a b → keyP a b ∈ kvs.map Prod.fst
theorem pure_two {a b : PyData} (fa : formedD a = true) (fb : formedD b = true) : pureD (.tuple [a, b]) = true := by
  simp [pureD, pureAll, pure_formed _ fa, pure_formed _ fb]
theorem PoD.put {K : PySem.W.Frag} {G G' : Hp} {ds : List PyData} {z : PyData} {kvs : List (List Key × V)} {a b : PyData} {v : V} (h : PoD K G ds kvs) (C : Cns ds) (t : Tups G G') (dv : Dx K G' v (.tuple [a, b])) (nz : Nz (ds ++ [z]) a b) (ez : z = .tuple [a, b] ∨ z = .tuple [b, a]) : PoD K G' (ds ++ [z]) (putK kvs (keyP a b) v) := by
  refine ⟨nodup_put h.nd, fun p hp => ?_, fun c d hcd => ?_⟩
  · rcases mem_put hp with rfl | ⟨hp, _⟩
    · exact ⟨a, b, rfl, dv, nz⟩
    · obtain ⟨c, d, e, dp, n⟩ := h.at_ p hp
      obtain ⟨⟨fc, fd⟩, _⟩ := C.side n.2
      exact ⟨c, d, e, Dx.ts t _ _ (pure_two fc fd) dp, nz_mono (fun _ hz => List.mem_append_left _ hz) n⟩
  · rw [mem_fst_put]
    have key : ∀ x y : PyData, PyData.tuple [x, y] = z → (tx x = tx a ∧ tx y = tx b) ∨ (tx x = tx b ∧ tx y = tx a) := fun x y e => by
      rcases ez with rfl | rfl
      · simp only [PyData.tuple.injEq, List.cons.injEq, and_true] at e
        obtain ⟨rfl, rfl⟩ := e
        exact .inl ⟨rfl, rfl⟩
      · simp only [PyData.tuple.injEq, List.cons.injEq, and_true] at e
        obtain ⟨rfl, rfl⟩ := e
        exact .inr ⟨rfl, rfl⟩
    have fin : ∀ x y : PyData, tx x < tx y → ((tx x = tx a ∧ tx y = tx b) ∨ (tx x = tx b ∧ tx y = tx a)) → keyP x y = keyP a b := fun x y l e => by
      rcases e with ⟨e1, e2⟩ | ⟨e1, e2⟩
      · unfold keyP
        rw [e1, e2]
      · rw [e1, e2] at l
        exact absurd (List.lt_trans l nz.1) (List.lt_irrefl _)
    rcases hcd.2 with m | m
    · rcases List.mem_append.mp m with m | m
      · exact .inl (h.all c d ⟨hcd.1, .inl m⟩)
      · exact .inr (fin c d hcd.1 (key c d (List.mem_singleton.mp m)))
    · rcases List.mem_append.mp m with m | m
      · exact .inl (h.all c d ⟨hcd.1, .inr m⟩)
      · exact .inr (fin c d hcd.1 ((key d c (List.mem_singleton.mp m)).symm.imp And.symm And.symm))
theorem PoD.skip {K : PySem.W.Frag} {G G' : Hp} {ds : List PyData} {kvs : List (List Key × V)} {a b : PyData} (h : PoD K G ds kvs) (C : Cns ds) (t : Tups G G') (e : tx a = tx b) : PoD K G' (ds ++ [.tuple [a, b]]) kvs := by
  refine ⟨h.nd, fun p hp => ?_, fun c d hcd => ?_⟩
  · obtain ⟨c, d, e, dp, n⟩ := h.at_ p hp
    obtain ⟨⟨fc, fd⟩, _⟩ := C.side n.2
    exact ⟨c, d, e, Dx.ts t _ _ (pure_two fc fd) dp, nz_mono (fun _ hz => List.mem_append_left _ hz) n⟩
  · have no : ∀ x y : PyData, PyData.tuple [x, y] = .tuple [a, b] → tx x = tx y := fun x y z => by
      simp only [PyData.tuple.injEq, List.cons.injEq, and_true] at z
      obtain ⟨rfl, rfl⟩ := z
      exact e
    rcases hcd.2 with m | m
    · rcases List.mem_append.mp m with m | m
      · exact h.all c d ⟨hcd.1, .inl m⟩
      · exact absurd hcd.1 (by rw [no c d (List.mem_singleton.mp m)]; exact List.lt_irrefl _)
    · rcases List.mem_append.mp m with m | m
      · exact h.all c d ⟨hcd.1, .inr m⟩
      · exact absurd hcd.1 (by rw [no d c (List.mem_singleton.mp m)]; exact List.lt_irrefl _)
theorem Cns.take {ds : List PyData} (C : Cns ds) (i : Nat) : Cns (ds.take i) := by
  refine ⟨fun d hd => C.c d (List.mem_of_mem_take hd), C.f.sub fun p hp => ?_⟩
  have : ∀ l : List PyData, p ∈ rowsAll l → ∃ x, x ∈ l ∧ p ∈ rowsD x := fun l => by
    induction l with
    | nil => intro h; cases h
    | cons d l ih =>
      intro h
      rw [rowsAll] at h
      rcases List.mem_append.mp h with h | h
      · exact ⟨d, List.mem_cons_self, h⟩
      · obtain ⟨x, hx, h⟩ := ih h
        exact ⟨x, List.mem_cons_of_mem _ hx, h⟩
  obtain ⟨x, hx, hp⟩ := this _ hp
  obtain ⟨d, hd, hx⟩ := List.mem_flatMap.mp hx
  exact rows_side (List.mem_flatMap.mpr ⟨d, List.mem_of_mem_take hd, hx⟩) p hp
def spPo (K : PySem.W.Frag) : Sp := fun vs H Q _ => ∃ (a : Addr) (xs : List V) (ds : List PyData), vs = [.ref a] ∧ Sq K H a xs ∧ DxAll K H xs ds ∧ Cns ds ∧ ds.length ≤ 300 ∧
  ∀ p vs L H', Same H H' → H' p = some (.tup vs) → DxAll K H' vs L → Prs ds L → Q (.ref p) H'
theorem ok_po (T : Tx K mg) : FnOk P w K mg base CX0 3 T.apairs_of T.dpairs_of ["couples"] (spPo K) := by
  have nd := sc_pairs_of.nd
  have G := ok_key (P := P) (w := w) (base := base) T
  refine T.fpairs_of.ok sc_pairs_of (fun vs H Q E h => ?_) (fun cdv A outer s H vs Q E hr h => ?_)
  · obtain ⟨a, xs, ds, rfl, _⟩ := h
    rfl
  obtain ⟨a, xs, ds, rfl, ha, hx, C, few, q⟩ := h
  have hu := hu_of hr
  refine ⟨_, (pss_cons (ps_set (i := 1) nd rfl (.inr rfl) pe_dnewT)
      (pss_cons (ps_for PassesOwn.never rfl (pi_seq (pv 0)) (pg_tup rfl (pgs_cons (pg_name (i := 2) nd rfl (.inl rfl)) (pgs_cons (pg_name (i := 3) nd rfl (.inl rfl)) pgs_nil))) (pss_cons (ps_asg (pe_call G (hr.mono (by omega)) (by rfl) T.gkey_of T.fkey_of.kp T.nkey_of .nil pass0 (pa_cons (pe_tup (pa_cons (pv 2) (pa_cons (pv 3) pa_nil))) pa_nil)) (pg_tup rfl (pgs_cons (pg_name (i := 4) nd rfl (.inl rfl)) (pgs_cons (pg_name (i := 5) nd rfl (.inl rfl)) pgs_nil))))
      (pss_one (ps_if (pt_cmpR op_lt_str (pv 4) (pv 5) (nomark _)) (pss_one (ps_asg (pe_tup (pa_cons (pv 2) (pa_cons (pv 3) pa_nil))) (pg_sub (pv 1) (pe_tup (pa_cons (pv 4) (pa_cons (pv 5) pa_nil))) (set_dict hu)))) (pss_one (ps_if (pt_cmpR op_lt_str (pv 5) (pv 4) (nomark _)) (pss_one (ps_asg (pe_tup (pa_cons (pv 3) (pa_cons (pv 2) pa_nil))) (pg_sub (pv 1) (pe_tup (pa_cons (pv 5) (pa_cons (pv 4) pa_nil))) (set_dict hu)))) pss_nil))))))
      (pss_one (ps_ret (pe_callTy call_tuple_of (by rfl) T.b_tuple (by decide +kernel) (pa_cons (pe_lc (own := [("key", 6)]) (g := (gName 6)) (tt := tYes) (by rfl) nd (pi_list (pe_callB (cr_sortedKT rfl hr.units) (by rfl) T.b_sorted (by decide +kernel) (pa_cons (pv 1) pa_nil))) (blkOk_by (own := [("key", 6)]) (N := N_pairs_of) (sc := defScope s_pairs_of) (by decide +kernel)) (fun _ _ _ _ _ => pg_name (i := 6) nd rfl (.inl rfl)) (fun _ _ _ _ _ => pts_nil) (fun _ _ _ _ _ => (pe_dget hu (pv 1) (pv 6) (fun _ _ => rfl)))) pa_nil)))))), ?_⟩
  intro fd nfd
  have s1 : Same H (upd H fd (.dT [])) := same_put nfd
  have lx := hx.length
  refine ⟨_, rfl, a, rfl, for_seq (xs := xs) ha s1 (fun i σ G => (∃ y2 y3 y4 y5 y6, σ = [some (.ref a), some (.ref fd), y2, y3, y4, y5, y6]) ∧ Same H G ∧ ∃ kvs, G fd = some (.dT kvs) ∧ PoD K G (ds.take i) kvs ∧ kvs.length ≤ i) ?_ (fun i σ G _ h => h.2.1) ?_ ?_⟩
  · refine ⟨⟨none, none, none, none, none, rfl⟩, s1, [], upd_same, ⟨List.nodup_nil, (fun p hp => by cases hp), fun a b h => ?_⟩, Nat.le_refl _⟩
    rw [List.take_zero] at h
    rcases h.2 with z | z <;> cases z
  · rintro i x σ G hi ⟨⟨y2, y3, y4, y5, y6, rfl⟩, sG, kvs, ef, pk, lk⟩
    have lti : i < ds.length := by rw [← lx]; exact (List.getElem?_eq_some_iff.mp hi).1
    have gd := List.getElem?_eq_getElem lti
    obtain ⟨v2, hv2, dv⟩ := hx.get gd
    rw [hi] at hv2
    cases hv2
    obtain ⟨ta, tb, eab, wa, wb⟩ := C.c _ (List.getElem_mem lti)
    rw [eab] at dv gd
    obtain ⟨q0, u, v3, rfl, hq0, du, dv3⟩ := dx_couple dv
    have et : ds.take (i + 1) = ds.take i ++ [.tuple [ta, tb]] := by rw [List.take_add_one, gd]; rfl
    refine ⟨q0, _, rfl, SqT.of (sG _ _ hq0), rfl, _, _, rfl, _, _, rfl, rfl, ?_⟩
    refine ⟨_, rfl, _, rfl, by show 2 ≤ sizeLine; decide, fun c nc => ?_⟩
    have s2 := same_put (o := .tup [u, v3]) nc
    have sH2 := sG.trans s2
    have ef2 := s2 _ _ ef
    have ec2 : (upd G c (.tup [u, v3])) c = some (.tup [u, v3]) := upd_same
    generalize upd G c (.tup [u, v3]) = G2 at s2 sH2 ef2 ec2 ⊢
    refine ⟨c, u, v3, ta, tb, rfl, ec2, du.up sH2, dv3.up sH2, wa, wb, fun k G3 s3 nk hk => ?_⟩
    refine ⟨k, _, rfl, SqT.of hk, rfl, _, _, rfl, _, _, rfl, rfl, ?_⟩
    have ef3 := s3 _ _ ef2
    have sH3 := sH2.trans s3
    refine ⟨_, rfl, _, rfl, _, _, rfl, rfl, _, rfl, ?_⟩
    have lkv : kvs.length < sizeLine := small1000 (by omega)
    have put : ∀ (c2 k2 : Addr) (ob : HO) (x y : Str), G3 c2 = none → (upd G3 c2 ob) k2 = none →
        Same H (upd (upd (upd G3 c2 ob) k2 (.tup ([Sum.inr x, Sum.inr y].map kV))) fd (.dT (putK kvs [Sum.inr x, Sum.inr y] (.ref c2)))) ∧ (upd (upd G3 c2 ob) k2 (.tup ([Sum.inr x, Sum.inr y].map kV))) fd = some (.dT kvs) ∧
        Tups (upd G3 c2 ob) (upd (upd (upd G3 c2 ob) k2 (.tup ([Sum.inr x, Sum.inr y].map kV))) fd (.dT (putK kvs [Sum.inr x, Sum.inr y] (.ref c2)))) := fun c2 k2 ob x y n1 n2 => by
      have t1 := same_put (o := ob) n1
      have t2 := same_put (o := .tup ([Sum.inr x, Sum.inr y].map kV)) n2
      refine ⟨fun b o hb => ?_, t2 _ _ (t1 _ _ ef3), fun b us hb => ?_⟩
      · rw [upd_ne (ne_of_none hb nfd)]
        exact t2 _ _ (t1 _ _ (sH3 _ _ hb))
      · rw [upd_ne (ne_of hb (t1 _ _ ef3) (fun e => nomatch e))]
        exact t2 _ _ hb
    by_cases h1 : tx ta < tx tb
    · rw [show decide ((tS (tx ta)).cps.toList < (tS (tx tb)).cps.toList) = true from decide_eq_true h1]
      refine iteT ?_
      refine ⟨_, rfl, _, rfl, by show 2 ≤ sizeLine; decide, fun c2 nc2 => ⟨_, rfl, _, rfl, _, rfl, by show 2 ≤ sizeLine; decide, fun k2 nk2 => ?_⟩⟩
      obtain ⟨z1, z2, z3⟩ := put c2 k2 (.tup [u, v3]) (tS (tx ta)) (tS (tx tb)) nc2 nk2
      refine ⟨fd, _, rfl, DPut.t (k := [Sum.inr (tS (tx ta)), Sum.inr (tS (tx tb))]) z2 upd_same lkv, ⟨_, _, _, _, _, rfl⟩, z1, _, upd_same, ?_, ?_⟩
      · rw [et]
        refine PoD.put pk (C.take i) ((Tups.of (s2.trans (s3.trans (same_put nc2)))).trans z3) ?_ ⟨h1, .inl (by simp)⟩ (.inl rfl)
        exact Dx.ts z3 _ _ (pure_two wa.f wb.f) (.tup upd_same (.cons (du.up (sH3.trans (same_put nc2))) (.cons (dv3.up (sH3.trans (same_put nc2))) .nil)))
      · have := length_putK kvs [Sum.inr (tS (tx ta)), Sum.inr (tS (tx tb))] (.ref c2)
        omega
    · rw [show decide ((tS (tx ta)).cps.toList < (tS (tx tb)).cps.toList) = false from decide_eq_false h1]
      refine iteF ?_
      refine ⟨_, rfl, _, rfl, _, _, rfl, rfl, _, rfl, ?_⟩
      by_cases h2 : tx tb < tx ta
      · rw [show decide ((tS (tx tb)).cps.toList < (tS (tx ta)).cps.toList) = true from decide_eq_true h2]
        refine iteT ?_
        refine ⟨_, rfl, _, rfl, by show 2 ≤ sizeLine; decide, fun c2 nc2 => ⟨_, rfl, _, rfl, _, rfl, by show 2 ≤ sizeLine; decide, fun k2 nk2 => ?_⟩⟩
        obtain ⟨z1, z2, z3⟩ := put c2 k2 (.tup [v3, u]) (tS (tx tb)) (tS (tx ta)) nc2 nk2
        refine ⟨fd, _, rfl, DPut.t (k := [Sum.inr (tS (tx tb)), Sum.inr (tS (tx ta))]) z2 upd_same lkv, ⟨_, _, _, _, _, rfl⟩, z1, _, upd_same, ?_, ?_⟩
        · rw [et]
          refine PoD.put pk (C.take i) ((Tups.of (s2.trans (s3.trans (same_put nc2)))).trans z3) ?_ ⟨h2, .inr (by simp)⟩ (.inr rfl)
          exact Dx.ts z3 _ _ (pure_two wb.f wa.f) (.tup upd_same (.cons (dv3.up (sH3.trans (same_put nc2))) (.cons (du.up (sH3.trans (same_put nc2))) .nil)))
        · have := length_putK kvs [Sum.inr (tS (tx tb)), Sum.inr (tS (tx ta))] (.ref c2)
          omega
      · rw [show decide ((tS (tx tb)).cps.toList < (tS (tx ta)).cps.toList) = false from decide_eq_false h2]
        have e := tx_tri h1 h2
        refine iteF ⟨⟨_, _, _, _, _, rfl⟩, sH3, kvs, ef3, ?_, Nat.le_succ_of_le lk⟩
        rw [et]
        exact PoD.skip pk (C.take i) (Tups.of (s2.trans s3)) e
  · rintro σ G ⟨⟨y2, y3, y4, y5, y6, rfl⟩, sG, kvs, ef, pk, lk⟩
    rw [lx, List.take_length] at pk
    refine ⟨_, rfl, fd, kvs, rfl, ef, ?_, ?_, fun zs p np ez hz => ?_⟩
    · intro d hd d' hd'
      obtain ⟨p, hp, rfl⟩ := List.mem_map.mp hd
      obtain ⟨p', hp', rfl⟩ := List.mem_map.mp hd'
      obtain ⟨x, y, e, _⟩ := pk.at_ p hp
      obtain ⟨x', y', e', _⟩ := pk.at_ p' hp'
      rw [e, e']
      rfl
    · intro p hp
      obtain ⟨x, y, e, _⟩ := pk.at_ p hp
      rw [e]
      simp [keyP]
    · obtain ⟨zz, ezz⟩ : ∃ zz, zz = zs.mergeSort (PySem.W.dataLe false fun z => tupD z.2) := ⟨_, rfl⟩
      rw [← ezz]
      have pz : zz.Perm zs := by rw [ezz]; exact List.mergeSort_perm _ _
      have mz : ∀ z, z ∈ zz → z.2 ∈ kvs.map Prod.fst := fun z hz => by rw [← ez]; exact List.mem_map.mpr ⟨z, pz.mem_iff.mp hz, rfl⟩
      have mk : ∀ k, k ∈ kvs.map Prod.fst → ∃ z, z ∈ zz ∧ z.2 = k := fun k hk => by
        rw [← ez] at hk
        obtain ⟨z, hz, e⟩ := List.mem_map.mp hk
        exact ⟨z, pz.mem_iff.mpr hz, e⟩
      have nz : ∀ z, z ∈ zz → ∃ a b, z.2 = keyP a b ∧ Nz ds a b := fun z hz => by
        obtain ⟨q, hq, e⟩ := List.mem_map.mp (mz z hz)
        obtain ⟨a, b, e2, _, n⟩ := pk.at_ q hq
        exact ⟨a, b, by rw [← e, e2], n⟩
      have srt : zz.Pairwise fun x y => ltR (tupD x.2) (tupD y.2) := by
        rw [ezz]
        refine sort_strict ?_
        have nk : (zs.map fun z => tupD z.2) = (kvs.map Prod.fst).map tupD := by
          rw [← ez, List.map_map]
          rfl
        have nd1 : ((kvs.map Prod.fst).map fun k => PySem.W.keyToks (tupD k)).Nodup := by
          rw [List.Nodup, List.pairwise_map]
          refine List.Pairwise.imp_of_mem (fun {x y} hx hy ne e => ne ?_) pk.nd
          obtain ⟨p1, hp1, e1⟩ := List.mem_map.mp hx
          obtain ⟨p2, hp2, e2⟩ := List.mem_map.mp hy
          obtain ⟨a, b, k1, _⟩ := pk.at_ p1 hp1
          obtain ⟨c, d, k2, _⟩ := pk.at_ p2 hp2
          rw [← e1, ← e2, k1, k2] at e ⊢
          simp only [tupD, keyP, List.map_cons, List.map_nil, keyD, PySem.W.keyToks, PySem.W.keyToksAll, List.cons_append, List.nil_append, List.cons.injEq, Sum.inr.injEq, and_true, true_and] at e ⊢
          exact ⟨congrArg tS (by simpa [tS] using e.1), congrArg tS (by simpa [tS] using e.2)⟩
        have : (zs.map fun b => PySem.W.keyToks (tupD b.2)) = ((kvs.map Prod.fst).map fun k => PySem.W.keyToks (tupD k)) := by
          rw [← ez, List.map_map]
          rfl
        rw [this]
        exact nd1
      have lz : zz.length = kvs.length := by
        rw [pz.length_eq, ← List.length_map (f := Prod.snd), ez, List.length_map]
      have sp := same_put (o := .lst (zz.map fun z => V.ref z.1)) np
      have ef1 := sp _ _ ef
      have hz1 : ∀ z, z ∈ zz → (upd G p (.lst (zz.map fun z => V.ref z.1))) z.1 = some (.tup (z.2.map kV)) := fun z h => sp _ _ (hz z (pz.mem_iff.mp h))
      have ep1 : (upd G p (.lst (zz.map fun z => V.ref z.1))) p = some (.lst (zz.map fun z => V.ref z.1)) := upd_same
      have sG1 := sG.trans sp
      have at1 : ∀ q, q ∈ kvs → ∃ a b, q.1 = keyP a b ∧ Dx K (upd G p (.lst (zz.map fun z => V.ref z.1))) q.2 (.tuple [a, b]) ∧ Nz ds a b := fun q hq => by
        obtain ⟨a, b, e, dq, n⟩ := pk.at_ q hq
        exact ⟨a, b, e, dq.up sp, n⟩
      generalize upd G p (.lst (zz.map fun z => V.ref z.1)) = G1 at ef1 hz1 ep1 sG1 at1 ⊢
      refine ⟨p, rfl, ⟨_, SqL.of ep1⟩, fun D nD => ?_⟩
      refine lc_list (K := K) (a := p) (xs := zz.map fun z => V.ref z.1) (fun i G2 => Same G1 G2 ∧ ∃ vs L, G2 D = some (.lst vs) ∧ DxAll K G1 vs L ∧ L.map keyL = (zz.take i).map Prod.snd ∧ ∀ z, z ∈ L → ∃ a b, z = .tuple [a, b] ∧ Nz ds a b) ⟨same_put nD, [], [], upd_same, .nil, rfl, (fun z hz => by cases hz)⟩ (fun i G2 _ h => SqL.of (h.1 _ _ ep1)) ?_ ?_
      · rintro i x G2 hi ⟨sG2, vs, L, eD, dL, eL, nL⟩
        rw [List.getElem?_map] at hi
        obtain ⟨z, hzi, rfl⟩ := Option.map_eq_some_iff.mp hi
        have mzz := List.mem_of_getElem? hzi
        have lti := (List.getElem?_eq_some_iff.mp hzi).1
        obtain ⟨v, hv⟩ := val_mem (mz z mzz)
        obtain ⟨a', b', ek, dv, n⟩ := at1 _ (mem_of_val hv)
        refine ⟨rfl, (iteT (B := False) ?_ : if true = true then _ else False)⟩
        refine ⟨_, rfl, _, rfl, fd, v, rfl, .inr ⟨kvs, z.2, z.1, .inl (sG2 _ _ ef1), rfl, sG2 _ _ (hz1 z mzz), hv.symm⟩, vs, eD, ?_, fun c o hc => ?_, vs ++ [v], L ++ [.tuple [a', b']], upd_same, DxAll.append dL (.cons dv .nil), ?_, ?_⟩
        · have l2 := dL.length
          have l3 := congrArg List.length eL
          rw [List.length_map, List.length_map, List.length_take] at l3
          exact small1000 (by omega)
        · rw [upd_ne (ne_of_none hc nD)]
          exact sG2 c o hc
        · rw [List.map_append, eL, List.take_add_one, hzi, List.map_append]
          show _ ++ [keyL (.tuple [a', b'])] = _ ++ [z.2]
          rw [show keyL (.tuple [a', b']) = keyP a' b' from rfl, ← ek]
        · intro y hy
          rcases List.mem_append.mp hy with hy | hy
          · exact nL y hy
          · exact ⟨a', b', List.mem_singleton.mp hy, n⟩
      · rintro G2 ⟨sG2, vs, L, eD, dL, eL, nL⟩
        rw [List.length_map, List.take_length] at eL
        refine ⟨D, vs, rfl, .inl ⟨SqL.of eD, fun l nl => q l vs L _ (sG1.trans (sG2.trans (same_put nl))) upd_same (dL.up (sG2.trans (same_put nl))) ⟨fun z => ⟨nL z, ?_⟩, ?_⟩⟩⟩
        · rintro ⟨a', b', rfl, n⟩
          obtain ⟨z, hz, e⟩ := mk _ (pk.all a' b' n)
          have : keyP a' b' ∈ L.map keyL := by rw [eL, ← e]; exact List.mem_map.mpr ⟨z, hz, rfl⟩
          obtain ⟨y, hy, ey⟩ := List.mem_map.mp this
          obtain ⟨c, d, rfl, n2⟩ := nL y hy
          obtain ⟨e1, e2⟩ := nz_inj C n2 n ey
          rw [e1, e2] at hy
          exact hy
        · have s2 : (L.map keyL).Pairwise fun x y => ltR (tupD x) (tupD y) := by
            rw [eL, List.pairwise_map]
            exact srt
          rw [List.pairwise_map] at s2
          refine List.Pairwise.imp_of_mem (fun {x y} hx hy h => ?_) s2
          obtain ⟨c, d, rfl, n1⟩ := nL x hx
          obtain ⟨c', d', rfl, n2⟩ := nL y hy
          exact (key_lt C n1 n2).mp h
end
end K11
/-! fact_of, and what the functions of facts raise. -/
namespace K11
open PySem PySem.Spec PyProof.Rows L2 Kx
section
variable {P : Program} {w : World} {K : PySem.W.Frag} {mg : Str → Option Value} {base : Heap}
theorem Cns.sub {ds es : List PyData} (C : Cns ds) (s : ∀ d, d ∈ es → d ∈ ds) : Cns es := by
  refine ⟨fun d hd => C.c d (s d hd), C.f.sub fun p hp => ?_⟩
  have : ∀ l : List PyData, p ∈ rowsAll l → ∃ x, x ∈ l ∧ p ∈ rowsD x := fun l => by
    induction l with
    | nil => intro h; cases h
    | cons d l ih =>
      intro h
      rw [rowsAll] at h
      rcases List.mem_append.mp h with h | h
      · exact ⟨d, List.mem_cons_self, h⟩
      · obtain ⟨x, hx, h⟩ := ih h
        exact ⟨x, List.mem_cons_of_mem _ hx, h⟩
  obtain ⟨x, hx, hp⟩ := this _ hp
  obtain ⟨d, hd, hx⟩ := List.mem_flatMap.mp hx
  exact rows_side (List.mem_flatMap.mpr ⟨d, s d hd, hx⟩) p hp
theorem Prs.uniq {ds es L M : List PyData} (h : Prs ds L) (h2 : Prs es M) (e : ∀ a b, Nz ds a b ↔ Nz es a b) : L = M := uniq_data h.srt h2.srt fun x => by
  rw [h.mem, h2.mem]
  exact exists_congr fun a => exists_congr fun b => by rw [e]
/-- what fact_of makes -/
def FoD (ds : List PyData) (e r : PyData) : Prop := ∃ L, Prs ds L ∧ ((e = .none ∧ r = .tuple [.tuple L, .none]) ∨ ∃ a b, e = .tuple [a, b] ∧ ((tx a = tx b ∧ r = .none) ∨ (tx a < tx b ∧ r = .tuple [.tuple L, .tuple [a, b]]) ∨ (tx b < tx a ∧ r = .tuple [.tuple L, .tuple [b, a]])))
theorem FoD.uniq {ds es : List PyData} {e r r' : PyData} (h : FoD ds e r) (h2 : FoD es e r') (q : ∀ a b, Nz ds a b ↔ Nz es a b) : r = r' := by
  obtain ⟨L, p, h⟩ := h
  obtain ⟨M, p2, h2⟩ := h2
  have el := p.uniq p2 q
  subst el
  rcases h with ⟨e1, e2⟩ | ⟨a, b, e1, h⟩
  · rcases h2 with ⟨_, e4⟩ | ⟨c, d, e3, _⟩
    · rw [e2, e4]
    · rw [e1] at e3; cases e3
  · rcases h2 with ⟨e3, _⟩ | ⟨c, d, e3, h2⟩
    · rw [e1] at e3; cases e3
    · rw [e1] at e3
      simp only [PyData.tuple.injEq, List.cons.injEq, and_true] at e3
      obtain ⟨rfl, rfl⟩ := e3
      rcases h with ⟨l, h⟩ | ⟨l, h⟩ | ⟨l, h⟩ <;> rcases h2 with ⟨m, h2⟩ | ⟨m, h2⟩ | ⟨m, h2⟩
      · rw [h, h2]
      · rw [l] at m; exact absurd m (List.lt_irrefl _)
      · rw [l] at m; exact absurd m (List.lt_irrefl _)
      · rw [m] at l; exact absurd l (List.lt_irrefl _)
      · rw [h, h2]
      · exact absurd (List.lt_trans l m) (List.lt_irrefl _)
      · rw [m] at l; exact absurd l (List.lt_irrefl _)
      · exact absurd (List.lt_trans l m) (List.lt_irrefl _)
      · rw [h, h2]
def spFo (K : PySem.W.Frag) : Sp := fun vs H Q _ => ∃ (a : Addr) (x : V) (e : PyData) (xs : List V) (ds : List PyData), vs = [x, .ref a] ∧ Dx K H x e ∧ Sq K H a xs ∧ DxAll K H xs ds ∧ Cns ds ∧ ds.length ≤ 300 ∧ (e ≠ .none → Cns [e]) ∧
  ∀ y r H', Same H H' → Dx K H' y r → FoD ds e r → Q y H'
theorem ok_fo (T : Tx K mg) : FnOk P w K mg base CX0 4 T.afact_of T.dfact_of ["conclusion", "conditions"] (spFo K) := by
  have nd := sc_fact_of.nd
  have G := ok_po (P := P) (w := w) (base := base) T
  refine T.ffact_of.ok sc_fact_of (fun vs H Q E h => ?_) (fun cdv A outer s H vs Q E hr h => ?_)
  · obtain ⟨a, x, e, xs, ds, rfl, _⟩ := h
    rfl
  obtain ⟨a, x, e, xs, ds, rfl, hx, ha, hd, hc, few, ce, q⟩ := h
  refine ⟨_, (pss_cons (ps_set (i := 2) nd rfl (.inl rfl) (pe_call G (hr.mono (by omega)) (by rfl) T.gpairs_of T.fpairs_of.kp T.npairs_of .nil pass0 (pa_cons (pv 1) pa_nil)))
      (pss_cons (ps_if (pt_cmpR op_isN (pv 0) pe_non (nomark _)) (pss_one (ps_ret (pe_tup (pa_cons (pv 2) (pa_cons pe_non pa_nil))))) pss_nil)
      (pss_cons (ps_set (i := 3) nd rfl (.inl rfl) (pe_call G (hr.mono (by omega)) (by rfl) T.gpairs_of T.fpairs_of.kp T.npairs_of .nil pass0 (pa_cons (pe_lst (pa_cons (pv 0) pa_nil)) pa_nil)))
      (pss_one (ps_ret (pe_ifExp (pt_truth (pv 3) (by intro _; rfl)) (pe_tup (pa_cons (pv 2) (pa_cons (pe_ix ix_tup (pv 3) pe_int (fun _ _ => rfl)) pa_nil))) pe_non)))))), ?_⟩
  refine ⟨_, rfl, a, xs, ds, rfl, ha, hd, hc, few, fun p vs L H1 s1 hp dL pL => ?_⟩
  refine ⟨_, rfl, rfl, _, rfl, ?_⟩
  by_cases ex : x = .non
  · have ee := (dx_nil hx).mpr ex
    subst ex ee
    refine iteT ⟨_, rfl, by show 2 ≤ sizeLine; decide, fun p2 np2 => q _ _ _ (s1.trans (same_put np2)) (.tup upd_same (.cons (.tup ((same_put np2) _ _ hp) (dL.up (same_put np2))) (.cons .non .nil))) ⟨L, pL, .inl ⟨rfl, rfl⟩⟩⟩
  · have ee : e ≠ .none := fun z => ex ((dx_nil hx).mp z)
    rw [decide_eq_false ex]
    refine iteF ?_
    have Ce := ce ee
    obtain ⟨ta, tb, rfl, wa, wb⟩ := Ce.c e (List.mem_singleton_self _)
    refine ⟨_, rfl, by show 1 ≤ sizeLine; decide, fun l nl => ?_⟩
    have sl := same_put (o := .lst [x]) nl
    have s2 := s1.trans sl
    have el : (upd H1 l (.lst [x])) l = some (.lst [x]) := upd_same
    have hp1 := sl _ _ hp
    have dL1 := dL.up sl
    generalize upd H1 l (.lst [x]) = H2 at s2 el hp1 dL1 ⊢
    refine ⟨l, [x], [.tuple [ta, tb]], rfl, .inl (SqL.of el), .cons (hx.up s2) .nil, Ce, by simp, fun p3 vs3 M H3 s3 hp3 dM pM => ?_⟩
    refine ⟨_, rfl, _, .inr (.inl ⟨vs3, SqT.of hp3, rfl⟩), ?_⟩
    have one : ∀ c d, Nz [.tuple [ta, tb]] c d → (c = ta ∧ d = tb) ∨ (c = tb ∧ d = ta) := fun c d n => by
      rcases n.2 with m | m
      · have := List.mem_singleton.mp m
        simp only [PyData.tuple.injEq, List.cons.injEq, and_true] at this
        exact .inl this
      · have := List.mem_singleton.mp m
        simp only [PyData.tuple.injEq, List.cons.injEq, and_true] at this
        exact .inr ⟨this.2, this.1⟩
    cases dM with
    | nil =>
      refine iteF (q _ _ _ (s2.trans s3) .non ⟨L, pL, .inr ⟨ta, tb, rfl, .inl ⟨tx_tri (fun z => ?_) (fun z => ?_), rfl⟩⟩⟩)
      · have := (pM.mem (.tuple [ta, tb])).mpr ⟨ta, tb, rfl, z, .inl (List.mem_singleton_self _)⟩
        cases this
      · have := (pM.mem (.tuple [tb, ta])).mpr ⟨tb, ta, rfl, z, .inr (List.mem_singleton_self _)⟩
        cases this
    | @cons y ys z zs dy dys =>
      refine iteT ⟨_, rfl, _, rfl, p3, _, 0, y, rfl, rfl, SqT.of hp3, atI_nat (j := 0) rfl, by show 2 ≤ sizeLine; decide, fun l2 nl2 => ?_⟩
      obtain ⟨c, d, rfl, n⟩ := (pM.mem z).mp List.mem_cons_self
      have s4 := same_put (o := .tup [.ref p, y]) nl2
      refine q _ (.tuple [.tuple L, .tuple [c, d]]) _ (s2.trans (s3.trans s4)) (.tup upd_same (.cons (.tup (s4 _ _ (s3 _ _ hp1)) (dL1.up (s3.trans s4))) (.cons (dy.up s4) .nil))) ⟨L, pL, .inr ⟨ta, tb, rfl, .inr ?_⟩⟩
      rcases one c d n with ⟨rfl, rfl⟩ | ⟨rfl, rfl⟩
      · exact .inl ⟨n.1, rfl⟩
      · exact .inr ⟨n.1, rfl⟩
end
end K11
/-! Facts in parts. -/
namespace K11
open PySem PySem.Spec PyProof.Rows L2 Kx
section
variable {P : Program} {w : World} {K : PySem.W.Frag} {mg : Str → Option Value} {base : Heap}
/-- all pairs of a fact -/
def prsD : PyData → List PyData
  | .tuple [.tuple ps, e] => ps ++ endOf e
  | _ => []
/-- a fact's parts -/
theorem fact_shape {d : PyData} (h : factD d = true) : ∃ ps e, d = .tuple [.tuple ps, e] ∧ couplesD (ps ++ endOf e) = true := by
  match d, h with
  | .tuple [a, e], h =>
    match a, h with
    | .tuple ps, h =>
      have h : (couplesD (ps ++ endOf e) && ((ps ++ endOf e).all ordC && chainD (ps.map keyC))) = true := h
      rw [Bool.and_eq_true] at h
      exact ⟨ps, e, rfl, h.1⟩
theorem dx_fact {H : Hp} {x : V} {ps : List PyData} {e : PyData} (h : Dx K H x (.tuple [.tuple ps, e])) : ∃ (f t : Addr) (us : List V) (v : V), x = .ref f ∧ H f = some (.tup [.ref t, v]) ∧ H t = some (.tup us) ∧ DxAll K H us ps ∧ Dx K H v e := by
  obtain ⟨f, u, v, rfl, hf, hu, hv⟩ := dx_couple h
  cases hu with
  | @tup t us _ ht hus => exact ⟨f, t, us, v, rfl, hf, ht, hus, hv⟩
theorem fz_parts {H : Hp} {x : V} {ps : List PyData} {e : PyData} (h : Fz K H x (.tuple [.tuple ps, e])) : ps.length ≤ 100 ∧ (ps ++ endOf e).length ≤ 101 ∧ shortAll (ps ++ endOf e) = true ∧ szAll (ps ++ endOf e) ≤ 10000 := by
  have fps := h.few ps e rfl
  have sh2 : shortAll ps = true ∧ shortD e = true := by
    have : shortAll [.tuple ps, e] = true := h.sh
    simpa [shortAll, shortD] using this
  have sz := h.sz
  have l1 : (endOf e).length ≤ 1 := by cases e <;> simp [endOf]
  have z1 : szAll (endOf e) ≤ szD e := by cases e <;> simp [endOf, szAll, szD]
  refine ⟨fps, by rw [List.length_append]; omega, ?_, ?_⟩
  · rw [shortAll_append, sh2.1, Bool.true_and]
    have := sh2.2
    cases e <;> simp_all [endOf, shortAll]
  · rw [szAll_append]
    simp only [szD, szAll] at sz
    omega
theorem noB {b : Bool} {p : Prop} (h : b = false) : b = true → p := fun z => by rw [h] at z; cases z
theorem couples_cns {ds : List PyData} (h : couplesD ds = true) (z : szAll ds ≤ 10000) : Cns ds := by
  refine ⟨couples_wr h z, ?_⟩
  simp only [couplesD, jointD, Bool.and_eq_true, decide_eq_true_eq] at h
  exact h.2.2
end
theorem pure_cpl : ∀ {l : List PyData}, (∀ d, d ∈ l → Cpl d) → pureAll l = true
  | [], _ => rfl
  | d :: l, h => by
    obtain ⟨a, b, rfl, wa, wb⟩ := h d List.mem_cons_self
    rw [pureAll, pure_cpl fun d hd => h d (List.mem_cons_of_mem _ hd)]
    simp [pureD, pureAll, pure_formed _ wa.f, pure_formed _ wb.f]
theorem nodup_len {α : Type} : ∀ {l m : List α}, l.Nodup → (∀ x, x ∈ l → x ∈ m) → l.length ≤ m.length
  | [], _, _, _ => Nat.zero_le _
  | x :: l, m, nd, h => by
    haveI : DecidableEq α := fun a b => Classical.propDecidable (a = b)
    rw [List.nodup_cons] at nd
    have mx := h x List.mem_cons_self
    have ih := nodup_len (l := l) (m := m.erase x) nd.2 fun y hy => (List.mem_erase_of_ne (fun (e : y = x) => nd.1 (e ▸ hy))).mpr (h y (List.mem_cons_of_mem _ hy))
    rw [List.length_erase_of_mem mx] at ih
    have : 0 < m.length := List.length_pos_of_mem mx
    rw [List.length_cons]
    omega
theorem rows_mem {p : NK} : ∀ {l : List PyData}, p ∈ rowsAll l → ∃ x, x ∈ l ∧ p ∈ rowsD x
  | [], h => by cases h
  | d :: l, h => by
    rw [rowsAll] at h
    rcases List.mem_append.mp h with h | h
    · exact ⟨d, List.mem_cons_self, h⟩
    · obtain ⟨x, hx, h⟩ := rows_mem h
      exact ⟨x, List.mem_cons_of_mem _ hx, h⟩
theorem Cns.sides {ds es : List PyData} (C : Cns ds) (h : ∀ d, d ∈ es → Cpl d) (s : ∀ x, x ∈ sidesD es → x ∈ sidesD ds) : Cns es :=
  ⟨h, C.f.sub fun p hp => by
    obtain ⟨x, hx, hp⟩ := rows_mem hp
    exact rows_side (s x hx) p hp⟩
/-- the couple turned, or as it is -/
def normC : PyData → PyData
  | .tuple [a, b] => if tx a < tx b then .tuple [a, b] else .tuple [b, a]
  | d => d
theorem Prs.len {ds L : List PyData} (p : Prs ds L) : L.length ≤ ds.length := by
  have nd : L.Nodup := p.srt.imp (S := fun a b => a ≠ b) fun {x y} (h : ltR x y) (e : x = y) => ltR_irrefl y (e ▸ h)
  have := nodup_len (m := ds.map normC) nd fun z hz => by
    obtain ⟨a, b, rfl, l, m⟩ := (p.mem z).mp hz
    rcases m with m | m
    · exact List.mem_map.mpr ⟨_, m, by show (if tx a < tx b then _ else _) = _; rw [if_pos l]⟩
    · exact List.mem_map.mpr ⟨_, m, by show (if tx b < tx a then _ else _) = _; rw [if_neg fun z => List.lt_irrefl _ (List.lt_trans l z)]⟩
  rwa [List.length_map] at this
theorem Cns.cpl {ds : List PyData} (C : Cns ds) {a b : PyData} (h : PyData.tuple [a, b] ∈ ds ∨ PyData.tuple [b, a] ∈ ds) : Cpl (.tuple [a, b]) := by
  rcases h with h | h
  · exact C.c _ h
  · obtain ⟨b', a', e, wb, wa⟩ := C.c _ h
    simp only [PyData.tuple.injEq, List.cons.injEq, and_true] at e
    obtain ⟨rfl, rfl⟩ := e
    exact ⟨a, b, rfl, wa, wb⟩
/-- sorted pairs of ds beside some of ds -/
theorem Prs.cns {ds es L ms : List PyData} (C : Cns ds) (p : Prs es L) (sub : ∀ d, d ∈ es → d ∈ ds) (sm : ∀ d, d ∈ ms → d ∈ ds) : Cns (L ++ ms) := by
  refine C.sides (fun d hd => ?_) fun x hx => ?_
  · rcases List.mem_append.mp hd with hd | hd
    · obtain ⟨a, b, rfl, _, m⟩ := (p.mem d).mp hd
      exact C.cpl (m.imp (sub _) (sub _))
    · exact C.c d (sm d hd)
  · obtain ⟨d, hd, hx⟩ := List.mem_flatMap.mp hx
    rcases List.mem_append.mp hd with hd | hd
    · obtain ⟨a, b, rfl, _, m⟩ := (p.mem d).mp hd
      obtain ⟨_, ma, mb⟩ := C.side (m.imp (sub _) (sub _))
      simp only [sidesOf, List.mem_cons, List.not_mem_nil, or_false] at hx
      rcases hx with rfl | rfl
      · exact ma
      · exact mb
    · exact List.mem_flatMap.mpr ⟨d, sm d hd, hx⟩
end K11
/-! == and != of data, deep ones. -/
namespace Kx
open PySem PySem.Spec PyProof.Rows L2
section
variable {X : Cx}
/-- == and != of data, deep ones -/
def rEqF (K : PySem.W.Frag) : R2 := fun x y H Q => ∃ d e, Dp K H x d ∧ Dp K H y e ∧ d.canLay0 = true ∧ e.canLay0 = true ∧ d.depth ≤ 190 ∧ Q (.bl (PyData.eqv d e)) H
def rNeF (K : PySem.W.Frag) : R2 := fun x y H Q => ∃ d e, Dp K H x d ∧ Dp K H y e ∧ d.canLay0 = true ∧ e.canLay0 = true ∧ d.depth ≤ 190 ∧ Q (.bl (!PyData.eqv d e)) H
theorem op_eqF (hu : X.A.units + 200 < cLine) : OpR X (compareOp .Eq) (rEqF X.K) := by
  intro pins s σ H x y v u Q I rx ry h
  obtain ⟨d, e, hd, he, sd, se, z, q⟩ := h
  obtain ⟨as, r1⟩ := Dp.reads I d x v hd rx
  obtain ⟨bs, r2⟩ := Dp.reads I e y u he ry
  exact SeqAt.compareEq_reads r1 r2 sd se (by have := Nat.min_le_left d.depth e.depth; omega) ⟨.bl _, H, I, rfl, q⟩
theorem op_neF (hu : X.A.units + 200 < cLine) : OpR X (compareOp .NotEq) (rNeF X.K) := by
  intro pins s σ H x y v u Q I rx ry h
  obtain ⟨d, e, hd, he, sd, se, z, q⟩ := h
  obtain ⟨as, r1⟩ := Dp.reads I d x v hd rx
  obtain ⟨bs, r2⟩ := Dp.reads I e y u he ry
  exact SeqAt.compareNe_reads r1 r2 sd se (by have := Nat.min_le_left d.depth e.depth; omega) ⟨.bl _, H, I, rfl, q⟩
end
theorem room200 {k : Nat} {A : Around} (r : Room k A) : A.units + 200 < cLine := by
  have := r.un
  omega
end Kx
/-! cut. -/
namespace K11
open PySem PySem.Spec PyProof.Rows L2 Kx
theorem letters_le {x : Str} (h : isNm x = true) : ∀ c, c ∈ x.cps.toList → c ≤ 122 := fun c hc => by
  simp only [isNm, Bool.and_eq_true, decide_eq_true_eq] at h
  have := (Array.all_eq_true'.mp h.2) c (Array.mem_toList_iff.mp hc)
  simp only [letter, Bool.and_eq_true, decide_eq_true_eq] at this
  exact this.2
mutual
theorem tx_small : ∀ (d : PyData), formedD d = true → ∀ c, c ∈ tx d → c ≤ 122
  | .tuple (a :: ds), hd, c, hc => by
    obtain ⟨x, ds', ed, _, hx, hds⟩ := formed_shape hd
    injection ed with ed
    injection ed with e1 e2
    subst e1 e2
    have hc : c ∈ x.cps.toList ++ txA ds := hc
    rcases List.mem_append.mp hc with h | h
    · exact letters_le hx c h
    · exact txA_small ds hds c h
  | .tuple [], hd, _, _ => by cases hd
  | .none, hd, _, _ => by cases hd
  | .bool _, hd, _, _ => by cases hd
  | .int _, hd, _, _ => by cases hd
  | .str _, hd, _, _ => by cases hd
  | .list _, hd, _, _ => by cases hd
  | .dict _, hd, _, _ => by cases hd
theorem txA_small : ∀ (ds : List PyData), formedAll ds = true → ∀ c, c ∈ txA ds → c ≤ 122
  | [], _, _, hc => by cases hc
  | d :: ds, h, c, hc => by
    rw [formedAll, Bool.and_eq_true] at h
    rw [txA] at hc
    rcases List.mem_cons.mp hc with rfl | hc
    · decide
    · rcases List.mem_append.mp hc with hc | hc
      · exact tx_small d h.1 c hc
      · rcases List.mem_append.mp hc with hc | hc
        · exact txM_small ds h.2 c hc
        · rw [List.mem_singleton.mp hc]
          decide
theorem txM_small : ∀ (ds : List PyData), formedAll ds = true → ∀ c, c ∈ txM ds → c ≤ 122
  | [], _, _, hc => by cases hc
  | d :: ds, h, c, hc => by
    rw [formedAll, Bool.and_eq_true] at h
    rw [txM] at hc
    rcases List.mem_cons.mp hc with rfl | hc
    · decide
    · rcases List.mem_append.mp hc with hc | hc
      · exact tx_small d h.1 c hc
      · exact txM_small ds h.2 c hc
end
theorem tx_ok {d : PyData} (h : formedD d = true) : PyData.strOk (tS (tx d)) = true := by
  refine Array.all_eq_true'.mpr fun c hc => ?_
  have := tx_small d h c (by simpa [tS] using hc)
  exact decide_eq_true (by omega)
theorem cpl_key {z : PyData} (h : Cpl z) : (keyC z).canLay0 = true ∧ (keyC z).depth ≤ 64 ∧ pureD (keyC z) = true ∧ (keyC z).hasDict = false := by
  obtain ⟨a, b, rfl, wa, wb⟩ := h
  refine ⟨by simp [keyC, PyData.canLay0, PyData.canLayAll0, tx_ok wa.f, tx_ok wb.f], by simp [keyC, PyData.depth, PyData.depthAll], rfl, rfl⟩
/-- keys are equal where the pairs are -/
theorem key_eqv {ds : List PyData} (C : Cns ds) {x y : PyData} (hx : x ∈ ds) (hy : y ∈ ds) : PyData.eqv (keyC x) (keyC y) = true ↔ x = y := by
  obtain ⟨a, b, rfl, wa, wb⟩ := C.c x hx
  obtain ⟨c, d, rfl, wc, wd⟩ := C.c y hy
  obtain ⟨_, ma, mb⟩ := C.side (.inl hx)
  obtain ⟨_, mc, md⟩ := C.side (.inl hy)
  simp only [keyC, PyData.eqv, PyData.eqvAll, Bool.and_true, Bool.and_eq_true, beq_iff_eq]
  constructor
  · rintro ⟨e1, e2⟩
    rw [tx_inj wa.f wc.f (C.two ma mc) (tS_inj e1), tx_inj wb.f wd.f (C.two mb md) (tS_inj e2)]
  · intro e
    simp only [PyData.tuple.injEq, List.cons.injEq, and_true] at e
    rw [e.1, e.2]
    exact ⟨rfl, rfl⟩
theorem eqv_cpl {x y : PyData} (hx : Cpl x) (hy : Cpl y) : PyData.eqv x y = true ↔ x = y := by
  obtain ⟨a, b, rfl, wa, wb⟩ := hx
  obtain ⟨c, d, rfl, wc, wd⟩ := hy
  simp only [PyData.eqv, PyData.eqvAll, Bool.and_true, Bool.and_eq_true, eqv_formed a c wa.f wc.f, eqv_formed b d wb.f wd.f, PyData.tuple.injEq, List.cons.injEq, and_true]
theorem room65 {k : Nat} {A : Around} (r : Room k A) : A.units + 65 < cLine := by
  have := room200 r
  omega
end K11
/-! is_pair, make_pair, make_fact: what they give. -/
namespace K11
open PySem PySem.Spec PyProof.Rows L2 Kx
section
variable {P : Program} {w : World} {K : PySem.W.Frag} {mg : Str → Option Value} {base : Heap}
def spPair (K : PySem.W.Frag) : Sp := fun vs H Q _ => ∃ (x : V) (d : PyData), vs = [x] ∧ Dx K H x d ∧ shortD d = true ∧ szD d ≤ 10000 ∧ ∀ H', Same H H' → Q (.bl (isPairD d)) H'
theorem ok_pair (T : Tx K mg) : FnOk P w K mg base CX0 5 T.ais_pair T.dis_pair ["value"] (spPair K) := by
  have nd := sc_is_pair.nd
  have G1 := ok_are (P := P) (w := w) (base := base) T
  have G2 := ok_ord (P := P) (w := w) (base := base) T
  refine T.fis_pair.ok sc_is_pair (fun vs H Q E h => ?_) (fun cdv A outer s H vs Q E hr h => ?_)
  · obtain ⟨x, d, rfl, _⟩ := h
    rfl
  obtain ⟨x, d, rfl, hx, sh, sz, q⟩ := h
  refine ⟨_, (pss_one (ps_ret (pe_and (pe_call G1 (hr.mono (by omega)) (by rfl) T.gare_couples T.fare_couples.kp T.nare_couples .nil pass0 (pa_cons (pe_lst (pa_cons (pv 0) pa_nil)) pa_nil)) (pe_one (pe_call G2 (hr.mono (by omega)) (by rfl) T.gis_ordered T.fis_ordered.kp T.nis_ordered .nil pass0 (pa_cons (pv 0) pa_nil)))))), ?_⟩
  refine ⟨_, rfl, by show 1 ≤ sizeLine; decide, fun l nl => ?_⟩
  refine ⟨l, [x], [d], rfl, SqL.of upd_same, .cons (hx.up (same_put nl)) .nil, by simp [shortAll, sh], by simp only [szAll]; omega, by simp, fun H1 s1 => ?_⟩
  have s2 := (same_put (o := .lst [x]) nl).trans s1
  have q := q
  unfold isPairD at q
  cases hc : couplesD [d] with
  | false =>
    rw [hc] at q
    exact ⟨_, rfl, iteF (q H1 s2)⟩
  | true =>
    obtain ⟨a, b, rfl, wa, wb⟩ := couples_wr hc (by simp only [szAll]; omega) d (List.mem_singleton_self _)
    obtain ⟨p, u, v, rfl, hp, du, dv⟩ := dx_couple hx
    rw [hc] at q
    refine ⟨_, rfl, iteT ?_⟩
    refine ⟨_, rfl, p, u, v, a, b, rfl, s2 _ _ hp, du.up s2, dv.up s2, wa, wb, fun H2 s3 => q H2 (s2.trans s3)⟩
def nmP (d e : PyData) : PyData := if tx d < tx e then .tuple [d, e] else .tuple [e, d]
theorem txlt_or {a b : List Nat} (ne : a ≠ b) : a < b ∨ b < a := by
  by_cases h : a < b
  · exact .inl h
  · by_cases h2 : b < a
    · exact .inr h2
    · exact absurd (List.le_antisymm (List.not_lt.mp h2) (List.not_lt.mp h)) ne
theorem prs_one {d e : PyData} (ne : tx d ≠ tx e) : Prs [.tuple [d, e]] [nmP d e] := by
  refine ⟨fun z => ?_, List.pairwise_singleton _ _⟩
  rw [List.mem_singleton]
  unfold nmP
  rcases txlt_or ne with l | l
  · rw [if_pos l]
    constructor
    · rintro rfl
      exact ⟨d, e, rfl, l, .inl (List.mem_singleton_self _)⟩
    · rintro ⟨a, b, rfl, m, h | h⟩
      · rw [List.mem_singleton] at h
        exact h
      · rw [List.mem_singleton] at h
        simp only [PyData.tuple.injEq, List.cons.injEq, and_true] at h
        obtain ⟨rfl, rfl⟩ := h
        exact absurd (List.lt_trans l m) (List.lt_irrefl _)
  · rw [if_neg fun z => absurd (List.lt_trans l z) (List.lt_irrefl _)]
    constructor
    · rintro rfl
      exact ⟨e, d, rfl, l, .inr (List.mem_singleton_self _)⟩
    · rintro ⟨a, b, rfl, m, h | h⟩
      · rw [List.mem_singleton] at h
        simp only [PyData.tuple.injEq, List.cons.injEq, and_true] at h
        obtain ⟨rfl, rfl⟩ := h
        exact absurd (List.lt_trans l m) (List.lt_irrefl _)
      · rw [List.mem_singleton] at h
        simp only [PyData.tuple.injEq, List.cons.injEq, and_true] at h
        obtain ⟨rfl, rfl⟩ := h
        rfl
def spMp (K : PySem.W.Frag) : Sp := fun vs H Q _ => ∃ (x y : V) (d e : PyData), vs = [x, y] ∧ Dz K H x d ∧ Dz K H y e ∧ termD d = true ∧ termD e = true ∧ szD d + szD e ≤ 10000 ∧ tx d ≠ tx e ∧ Cns [.tuple [d, e]] ∧ jointD [d, e] = true ∧
  ∀ z H', Same H H' → Dx K H' z (nmP d e) → Q z H'
theorem ok_mp (T : Tx K mg) : FnOk P w K mg base (L2.CX P w) 7 T.amake_pair T.dmake_pair ["term", "other"] (spMp K) := by
  have nd := sc_make_pair.nd
  have GT := ok_ck (P := P) (w := w) (base := base) T
  have GP := ok_po (P := P) (w := w) (base := base) T
  have GJ := ok_jointL (P := P) (w := w) (base := base) T
  refine T.fmake_pair.okX sc_make_pair (fun vs H Q E h => ?_) (fun cdv A outer s H vs Q E hr h => ?_)
  · obtain ⟨x, y, d, e, rfl, _⟩ := h
    rfl
  obtain ⟨x, y, d, e, rfl, hx, hy, t1, t2, wz, ne, C, ej, q⟩ := h
  refine ⟨_, (pss_cons (ps_expr (pe_call GT (hr.mono (by omega)) (by rfl) T.gcheck_term T.fcheck_term.kp T.ncheck_term .nil (passes_call (takes_of rfl rfl rfl rfl) (fun _ _ _ _ h => h)) (pa_cons (pv 0) pa_nil)))
      (pss_cons (ps_expr (pe_call GT (hr.mono (by omega)) (by rfl) T.gcheck_term T.fcheck_term.kp T.ncheck_term .nil (passes_call (takes_of rfl rfl rfl rfl) (fun _ _ _ _ h => h)) (pa_cons (pv 1) pa_nil)))
      (pss_cons (ps_set (i := 2) nd rfl (.inl rfl) (pe_call GP (hr.mono (by omega)) (by rfl) T.gpairs_of T.fpairs_of.kp T.npairs_of .nil pass0 (pa_cons (pe_lst (pa_cons (pe_tup (pa_cons (pv 0) (pa_cons (pv 1) pa_nil))) pa_nil)) pa_nil)))
      (pss_cons (ps_if (pt_not (pt_truth (pv 2) (by intro _; rfl))) (pss_one (ps_raise rfl (takes_of rfl rfl rfl rfl) (pmk_own PySem.F.excBase_ValueError T.xInvalidOperation T.gInvalidOperation T.kInvalidOperation (raises_own T.bInvalidOperation T.tInvalidOperation) (by rfl)))) pss_nil)
      (pss_cons (ps_if (pt_cmpR op_isN (pe_call GJ (hr.mono (by omega)) (by rfl) T.gjoint_places T.fjoint_places.kp T.njoint_places .nil pass0 (pa_cons (pe_lst (pa_cons (pv 0) (pa_cons (pv 1) pa_nil))) pa_nil)) pe_non (nomark _)) (pss_one (ps_raise rfl (takes_of rfl rfl rfl rfl) (pmk_own PySem.F.excBase_ValueError T.xInvalidFact T.gInvalidFact T.kInvalidFact (raises_own T.bInvalidFact T.tInvalidFact) (by rfl)))) pss_nil)
      (pss_one (ps_ret (pe_ix ix_tup (pv 2) pe_int (fun _ _ => rfl))))))))), ?_⟩
  refine ⟨_, rfl, x, d, rfl, hx, fun _ H1 s1 => ⟨_, rfl, y, e, rfl, hy.up s1, fun _ H2 s2 => ?_, fun z => by rw [t2] at z; cases z⟩, fun z => by rw [t1] at z; cases z⟩
  have s12 := s1.trans s2
  refine ⟨_, rfl, _, rfl, by show 2 ≤ sizeLine; decide, fun c nc => ⟨by show 1 ≤ sizeLine; decide, fun l nl => ?_⟩⟩
  have sc := same_put (o := .tup [x, y]) nc
  have sl := same_put (o := .lst [.ref c]) nl
  have s3 := s12.trans (sc.trans sl)
  have ec := sl _ _ (upd_same : (upd H2 c (.tup [x, y])) c = _)
  have el : (upd (upd H2 c (.tup [x, y])) l (.lst [.ref c])) l = some (.lst [.ref c]) := upd_same
  generalize upd (upd H2 c (.tup [x, y])) l (.lst [.ref c]) = H3 at s3 ec el ⊢
  refine ⟨l, [.ref c], [.tuple [d, e]], rfl, .inl (SqL.of el), .cons (.tup ec (.cons (hx.1.up s3) (.cons (hy.1.up s3) .nil))) .nil, C, by simp, fun p vs L H4 s4 hp dL pL => ?_⟩
  have eL : L = [nmP d e] := pL.uniq (prs_one ne) fun _ _ => Iff.rfl
  subst eL
  have s34 := s3.trans s4
  cases dL with
  | @cons v vs0 _ _ dv dr =>
  cases dr
  refine ⟨_, rfl, _, .inr (.inl ⟨[v], SqT.of hp, rfl⟩), ?_⟩
  refine iteF ⟨_, rfl, _, rfl, by show 2 ≤ sizeLine; decide, fun l2 nl2 => ?_⟩
  have sN := same_put (o := .lst [x, y]) nl2
  have s5 := s34.trans sN
  refine ⟨l2, [x, y], [d, e], rfl, SqL.of upd_same, .cons (hx.1.up s5) (.cons (hy.1.up s5) .nil), by simp [shortAll, hx.2.1, hy.2.1], by simp only [szAll]; omega, fun z H6 s6 h1 h2 => ?_⟩
  obtain ⟨pm, ms, rfl, _⟩ := h2 ej
  have s56 := sN.trans s6
  exact ⟨rfl, _, rfl, iteF ⟨_, rfl, p, _, 0, v, rfl, rfl, SqT.of (s56 _ _ hp), atI_nat (j := 0) rfl, q v _ (s34.trans s56) (dv.up s56)⟩⟩
def spMfB (K : PySem.W.Frag) : Sp := fun vs H Q E => ∃ (x : V) (e : PyData) (a : Addr) (ws : List V) (ds : List PyData), vs = [x, .ref a] ∧ H a = some (.tup ws) ∧ Dx K H x e ∧ DxAll K H ws ds ∧ shortAll (ds ++ endOf e) = true ∧ szAll (ds ++ endOf e) ≤ 10000 ∧ ds.length ≤ 100 ∧
  couplesD (ds ++ endOf e) = true ∧ ∀ y r H', Same H H' → Dx K H' y r → FoD ds e r → r ≠ .none ∧ (r ≠ .none → Q y H')
def spMf (K : PySem.W.Frag) : Sp := fun vs H Q E => ∃ ws rest, vs = ws ++ rest ∧ ws.length = 1 ∧ rest.length ≤ sizeLine ∧ ∀ p, H p = none → spMfB K (ws ++ [V.ref p]) (upd H p (.tup rest)) Q E
theorem ok_mf (T : Tx K mg) : L2.FnR P w K mg base (L2.CX P w) 7 T.amake_fact (spMf K) := by
  have nd := sc_make_fact.nd
  have GA := ok_are (P := P) (w := w) (base := base) T
  have GO := ok_fo (P := P) (w := w) (base := base) T
  obtain ⟨oc, od, kV, doc, pm, an, cdv, ct, osl, e, lk, hcd⟩ := T.fmake_fact.ex
  rw [e] at lk
  refine StX.fn_star (ps := ["conclusion"]) (pv := "conditions") (sp := spMfB K) lk hcd sc_make_fact StX.cxUp (fun us rest h => ?_) (fun A outer s H vs Q E hr h => ?_)
  · match us, h with
    | [u], _ => cases rest <;> rfl
  obtain ⟨x, e, a, ws, ds, rfl, ha, hx, hw, sh, sz, few, hc, q⟩ := h
  refine ⟨_, (pss_cons (ps_set (i := 2) nd rfl (.inl rfl) (pe_callTy call_list_of (by rfl) T.b_list (by decide +kernel) (pa_cons (pv 1) pa_nil)))
      (C8.pss_cut (ps_if (pt_cmpR op_notN (pv 0) pe_non (nomark _)) (pss_one (ps_expr (pe_bm PySem.F.plainAttrs_list PySem.F.slot_list_append PySem.F.type_list_append mt_append (pv 2) (pa_cons (pv 0) pa_nil)))) pss_nil)
      (pss_cons (ps_if (pt_not (pt_val (pe_call GA (hr.mono (by omega)) (by rfl) T.gare_couples T.fare_couples.kp T.nare_couples .nil pass0 (pa_cons (pv 2) pa_nil)))) (pss_one (ps_raise rfl (takes_of rfl rfl rfl rfl) (pmk_own PySem.F.excBase_ValueError T.xInvalidFact T.gInvalidFact T.kInvalidFact (raises_own T.bInvalidFact T.tInvalidFact) (by rfl)))) pss_nil)
      (pss_cons (ps_set (i := 3) nd rfl (.inl rfl) (pe_call GO (hr.mono (by omega)) (by rfl) T.gfact_of T.ffact_of.kp T.nfact_of .nil pass0 (pa_cons (pv 0) (pa_cons (pv 1) pa_nil))))
      (pss_cons (ps_if (pt_cmpR op_isN (pv 3) pe_non (nomark _)) (pss_one (ps_raise rfl (takes_of rfl rfl rfl rfl) (pmk_own PySem.F.excBase_ValueError T.xInvalidFact T.gInvalidFact T.kInvalidFact (raises_own T.bInvalidFact T.tInvalidFact) (by rfl)))) pss_nil)
      (pss_one (ps_ret (pv 3)))))))), ?_⟩
  have lw := hw.length
  refine ⟨_, rfl, a, ws, rfl, .inr (SqT.of ha), fun l nl => ?_⟩
  have s1 := same_put (o := .lst ws) nl
  refine ⟨fun σ' G => σ' = [some x, some (.ref a), some (.ref l), none] ∧ Same H G ∧ ∃ zs, G l = some (.lst zs) ∧ DxAll K G zs (ds ++ endOf e), ?_, ?_⟩
  · refine ⟨_, rfl, rfl, _, rfl, ?_⟩
    by_cases ex : x = .non
    · have ee := (dx_nil hx).mpr ex
      subst ex ee
      refine iteF ⟨rfl, s1, ws, upd_same, ?_⟩
      rw [show endOf .none = [] from rfl, List.append_nil]
      exact hw.up s1
    · have ee : e ≠ .none := fun z => ex ((dx_nil hx).mp z)
      rw [show (!decide (x = .non)) = true by simp [ex]]
      refine iteT ?_
      refine ⟨_, rfl, .inl ⟨rfl, _, .inl (.inl upd_same)⟩, _, rfl, l, ws, x, rfl, rfl, upd_same, small1000 (by omega), rfl, ?_, ws ++ [x], upd_same, ?_⟩
      · intro z o hz
        rw [upd_ne (ne_of_none hz nl)]
        exact s1 _ _ hz
      · rw [endOf_some ee, upd_upd]
        exact DxAll.append (hw.up (same_put nl)) (.cons (hx.up (same_put nl)) .nil)
  · rintro σ' G ⟨rfl, sG, zs, el, dz⟩
    have l1 : (endOf e).length ≤ 1 := by cases e <;> simp [endOf]
    refine ⟨_, rfl, l, zs, ds ++ endOf e, rfl, SqL.of el, dz, sh, by omega, by rw [List.length_append]; omega, fun G2 s2 => ⟨_, rfl, ?_⟩⟩
    have s3 := sG.trans s2
    rw [hc]
    have C := couples_cns hc sz
    refine iteF ⟨_, rfl, _, rfl, a, x, e, ws, ds, rfl, hx.up s3, .inr (SqT.of (s3 _ _ ha)), hw.up s3, C.sub fun z hz => List.mem_append_left _ hz, by omega, fun ee => C.sub fun z hz => List.mem_append_right _ (by rw [endOf_some ee]; exact hz), fun y r G3 s4 dy fo => ?_⟩
    obtain ⟨nr, q⟩ := q y r G3 (s3.trans s4) dy fo
    have ny : y ≠ .non := fun z => nr ((dx_nil dy).mpr z)
    refine ⟨_, rfl, rfl, _, rfl, ?_⟩
    rw [decide_eq_false ny]
    exact iteF ⟨_, rfl, q nr⟩
end
end K11
/-! sorted(d), d with texts for keys. -/
namespace Kx
open PySem PySem.Spec PyProof.Rows L2
def rSortKS (K : PySem.W.Frag) : List V → Hp → VK → Prop := fun xs H Q => ∃ (a : Addr) (kvs : List (Key × V)) (l : List Str), xs = [.ref a] ∧ H a = some (.dK kvs) ∧ kvs.map Prod.fst = l.map Sum.inr ∧
  ∀ p, H p = none → Q (.ref p) (upd H p (.lst ((l.mergeSort (PySem.W.dataLe false PyData.str)).map V.str)))
section
variable {X : Cx}
theorem cr_sortedKS (hc : X.calm = true) (hu : X.A.units + 64 < cLine) : CallR X (.builtin "sorted") (rSortKS X.K) := by
  intro pins s σ H xs us Q I r h
  obtain ⟨d, kvs, l, rfl, hk, el, q⟩ := h
  obtain ⟨u, rfl, rx⟩ := r.one
  cases rx
  obtain ⟨z, lo, vs, rk, hd⟩ := (show ObjOk X.prog X.w H s.heap d (.dK kvs) from I.hok d _ hk)
  obtain ⟨ep, hat⟩ := hd.dictAt
  have hl : kvs.length = vs.length := Paired.length rk
  have ll : l.length = kvs.length := by
    have := congrArg List.length el
    simpa using this.symm
  refine Calls.call_function_entry PyProof.Rows.kind_sorted PyProof.Rows.plain_sorted PyProof.Rows.entry_sorted (PyProof.Rows.args_sorted1 _) ?_
  unfold Builtin.«sorted»
  refine wpAny_bind (m := checkCount "sorted" 1 1 _) (wpAny_pure ?_)
  refine wpAny_bind (PySem.W.kdu_collect (A := X.A.in1) (PySem.W.kdl_dict (knd := mixKind X.prog X.w) (kvs := vs) (ep := ep) lo) (I.ok.hd hc) hat (by rw [← hl]; exact z) fun h' tk acc hkp it => ?_)
  have I1 : Inv X pins σ H { s with heap := h', toks := tk } := I.kept hkp
  have la : acc.toList.length = vs.length := by
    have e0 := it.1
    have e1 : acc.toList.length = acc.size := by simp
    omega
  have rv : Vals (l.map V.str) acc.toList := by
    refine vals_of_at (by rw [List.length_map, la]; omega) fun j x w h1 h2 => ?_
    obtain ⟨k, y, hky, hi⟩ := it.2 j w (by rw [← Array.getElem?_toList]; exact h2)
    have e1 : (kvs.map (·.1))[j]? = some k := by
      rw [KV.keys rk, List.getElem?_map, hky] <;> rfl
    have e1 : (l.map Sum.inr)[j]? = some k := by rw [← el]; exact e1
    rw [List.getElem?_map] at e1 h1
    obtain ⟨t, ht, rfl⟩ := Option.map_eq_some_iff.mp e1
    rw [ht] at h1
    cases h1
    exact keyIs_rel (k := .inr t) hi
  have lz : l.length ≤ sizeLine := by omega
  refine wpAny_bind (wpAny_newList ?_ (by have := rv.length; rw [List.length_map] at this; omega))
  have hoL : (h'.push (seqObj "list" acc.toList.toArray 0)).get? h'.objs.size = some (seqObj "list" acc.toList.toArray 0) := Heap.get?_push_size _ rfl
  show wpAny _ _ _ _ _ { s with heap := h'.push (seqObj "list" acc.toList.toArray 0), toks := tk }
  have each : ∀ (l : List Str) (us : List Value), Vals (l.map V.str) us → PySem.W.EachIs (fun u (p : Str) => RelV (V.str p) u ∧ ∃ as, Reads (h'.push (seqObj "list" acc.toList.toArray 0)) u (PyData.str p) as ∧ h'.objs.size ∉ as) us l := by
    intro l
    induction l with
    | nil => intro us h; cases h; exact .nil
    | cons x l ih =>
      intro us h
      cases h with
      | cons a b =>
        obtain ⟨t, rfl⟩ := a
        refine .cons ⟨⟨t, rfl⟩, ?_⟩ (ih _ b)
        obtain ⟨as, rd, _⟩ := Dx.reads I1 (PyData.str x) (.str x) _ (.str x) ⟨t, rfl⟩
        cases rd
        exact ⟨[], .str _ _, fun z => nomatch z⟩
  have e := each l _ rv
  have alz : PySem.W.AllAlike (l.map PyData.str) := by
    intro a ha b hb
    obtain ⟨x, _, rfl⟩ := List.mem_map.mp ha
    obtain ⟨y, _, rfl⟩ := List.mem_map.mp hb
    rfl
  have so : PySem.W.Sortable (l.map PyData.str) := .inr fun dd hdd => by
    obtain ⟨x, _, rfl⟩ := List.mem_map.mp hdd
    exact ⟨(fun z => nomatch z), fun xs z => nomatch z⟩
  refine wpAny_bind (wpAny_holding (PySem.W.list_sort_data (enc := PyData.str) hoL (e.mono fun _ _ h => h.1) (e.mono fun _ _ h => h.2) alz so lz (fun b hb => ?_) fun out lo eo => ?_))
  · show X.A.units + 1 + 1 + (PyData.str b).depth < cLine
    simp only [PyData.depth]
    omega
  obtain ⟨e', he'⟩ := PyProof.Rows.sortedHeap_at (vs := acc.toList) (out := out.toArray) hoL
  have back : ∀ {out : List Value} {ys : List Str}, PySem.W.EachIs (fun u (p : Str) => RelV (V.str p) u) out ys → Vals (ys.map V.str) out := by
    intro out ys h
    induction h with
    | nil => exact .nil
    | cons h _ ih => exact .cons h ih
  have ln : ((l.mergeSort (PySem.W.dataLe false PyData.str)).map V.str).length ≤ sizeLine := by
    rw [List.length_map, List.length_mergeSort]
    exact lz
  refine wpAny_pure ⟨_, rfl, .ref h'.objs.size, upd H h'.objs.size (.lst ((l.mergeSort (PySem.W.dataLe false PyData.str)).map V.str)), I1.laid (t' := tk) (fun b u e => ?_) (Nat.le_refl _)
    (show ObjOk X.prog X.w _ _ _ (.lst _) from ⟨ln, out, e', back eo, he'⟩), rfl, q _ (I1.hok.fresh (Nat.le_refl _))⟩
  have hb : b < h'.objs.size := Heap.lt_size e
  rw [PyProof.Rows.sortedHeap_old (Nat.ne_of_lt hb) (by rw [size_push']; exact Nat.lt_succ_of_lt hb)]
  exact Heap.get?_push_of_some _ e
end
end Kx
/-! by_name, places_in. -/
namespace Kx
open PySem PySem.Spec PyProof.Rows L2
theorem dc_list {K : PySem.W.Frag} {a : Addr} {xs : List V} {g : TG} {tt : TT} {tk tv : TE} {vs : List Nat} {σ : L2.St} {H1 : Hp} {D : Addr} {Qd : Hp → Prop} (Pv : Nat → Hp → Prop) (h0 : Pv 0 (upd H1 D (.dK []))) (hl : ∀ i H, i ≤ xs.length → Pv i H → SqL K H a xs)
    (hs : ∀ i x H, xs[i]? = some x → Pv i H → g x (wipe σ vs) H fun σ2 H2 => wipe σ2 vs = wipe σ vs ∧ tt σ2 H2 fun b H3 =>
      if b = true then tk σ2 H3 fun y H4 => tv σ2 H4 fun z H5 => ∃ kvs k, y = kV k ∧ H5 D = some (.dK kvs) ∧ kvs.length < sizeLine ∧ Pv (i + 1) (upd H5 D (.dK (putK kvs k z))) else Pv (i + 1) H3) (hd : ∀ H, Pv xs.length H → Qd H) :
    ∃ W : Nat → Nat → Hp → Prop, (∃ m, W 0 m (upd H1 D (.dK []))) ∧ ∀ i m H, W i m H →
      ((Itl K a).stop i H ∧ Qd H) ∨ ((Itl K a).go i H ∧ ∃ Nx : Hp → Prop, (∀ H', Nx H' → ∃ m', m' < m ∧ W (i + 1) m' H') ∧ ∀ x H', (Itl K a).yld i H x H' → g x (wipe σ vs) H' fun σ2 H2 => wipe σ2 vs = wipe σ vs ∧ tt σ2 H2 fun b H3 =>
        if b = true then tk σ2 H3 fun y H4 => tv σ2 H4 fun z H5 => ∃ kvs k, y = kV k ∧ H5 D = some (.dK kvs) ∧ kvs.length < sizeLine ∧ Nx (upd H5 D (.dK (putK kvs k z))) else Nx H3) := by
  refine ⟨fun i m H => m = xs.length - i ∧ i ≤ xs.length ∧ Pv i H, ⟨xs.length, by simp, Nat.zero_le _, h0⟩, ?_⟩
  rintro i m H ⟨rfl, hi, p⟩
  have q := hl i H hi p
  by_cases hlt : i < xs.length
  · refine .inr ⟨⟨xs, xs[i], q, by simp [hlt]⟩, Pv (i + 1), fun H' p' => ⟨xs.length - (i + 1), by omega, rfl, hlt, p'⟩, fun x H' y => ?_⟩
    obtain ⟨e, y⟩ := y
    subst e
    exact hs i x _ (y xs q) p
  · have e : i = xs.length := by omega
    subst e
    exact .inl ⟨⟨xs, q, Nat.le_refl _⟩, hd H p⟩
end Kx
namespace K11
open PySem PySem.Spec PyProof.Rows L2 Kx
/-- names in their order -/
def srtS (l : List Str) : List Str := l.mergeSort (PySem.W.dataLe false PyData.str)
theorem srtS_perm (l : List Str) : (srtS l).Perm l := List.mergeSort_perm _ _
theorem put_new {ms : List NK} {x : Str} {k : Nat} (h : x ∉ ms.map Prod.fst) : putK (dictOf ms) (.inr x) (.int (k : Int)) = dictOf (ms ++ [(x, k)]) := by
  have e : ((dictOf ms).any fun kv => decide (kv.1 = (Sum.inr x : Key))) = false := by
    rw [List.any_eq_false]
    intro p hp z
    obtain ⟨r, hr, rfl⟩ := List.mem_map.mp hp
    have z := of_decide_eq_true z
    exact h (List.mem_map.mpr ⟨r, hr, Sum.inr.inj z⟩)
  unfold putK
  rw [if_neg (by rw [e]; simp), dictOf, dictOf, List.map_append]
  rfl
theorem val_nk {x : Str} : ∀ {ms : List NK}, x ∈ ms.map Prod.fst → ∃ k, (x, k) ∈ ms ∧ valV (dictOf ms) (.inr x) = some (.int (k : Int)) := fun {ms} h => by
  cases e : valV (dictOf ms) (Sum.inr x) with
  | none =>
    exfalso
    induction ms with
    | nil => cases h
    | cons p ms ih =>
      by_cases hp : p.1 = x
      · rw [show dictOf (p :: ms) = (Sum.inr p.1, V.int p.2) :: dictOf ms from rfl, valV_pos (by rw [hp])] at e
        cases e
      · rw [show dictOf (p :: ms) = (Sum.inr p.1, V.int p.2) :: dictOf ms from rfl, valV_neg (fun z => hp (Sum.inr.inj z))] at e
        rw [List.map_cons, List.mem_cons] at h
        exact ih (h.resolve_left fun z => hp z.symm) e
  | some v =>
    obtain ⟨k, hk, rfl⟩ := val_some e
    exact ⟨k, hk, rfl⟩
section
variable {P : Program} {w : World} {K : PySem.W.Frag} {mg : Str → Option Value} {base : Heap}
def spBn (K : PySem.W.Frag) : Sp := fun vs H Q _ => ∃ (a : Addr) (ms : List NK), vs = [.ref a] ∧ H a = some (.dK (dictOf ms)) ∧ (ms.map Prod.fst).Nodup ∧ ms.length < 100000 ∧
  ∀ p ms' H', Same H H' → H' p = some (.dK (dictOf ms')) → ms'.map Prod.fst = srtS (ms.map Prod.fst) → (∀ r, r ∈ ms' → r ∈ ms) → Q (.ref p) H'
theorem ok_bn (T : Tx K mg) : FnOk P w K mg base CX0 1 T.aby_name T.dby_name ["places"] (spBn K) := by
  have nd := sc_by_name.nd
  refine T.fby_name.ok sc_by_name (fun vs H Q E h => ?_) (fun cdv A outer s H vs Q E hr h => ?_)
  · obtain ⟨a, ms, rfl, _⟩ := h
    rfl
  obtain ⟨a, ms, rfl, ha, ndm, lm, q⟩ := h
  have hu := hu_of hr
  refine ⟨_, (pss_one (ps_ret (pe_dc (own := [("name", 1)]) (g := (gName 1)) (tt := tYes) (by rfl) nd (pi_list (pe_callB (cr_sortedKS (by rfl) (by have := room200 hr; show (A.deeper _).units + 64 < cLine; omega)) (by rfl) T.b_sorted (by decide +kernel) (pa_cons (pv 0) pa_nil))) (blkOk_by (own := [("name", 1)]) (N := N_by_name) (sc := defScope s_by_name) (by decide +kernel)) (fun _ _ _ _ _ => pg_name (i := 1) nd rfl (.inl rfl)) (fun _ _ _ _ _ => pts_nil) (fun _ _ _ _ _ => pv 1) (fun _ _ _ _ _ => pe_dget hu (pv 0) (pv 1) (fun _ _ => rfl))))), ?_⟩
  refine ⟨_, rfl, a, dictOf ms, ms.map Prod.fst, rfl, ha, by rw [dictOf, List.map_map, List.map_map]; rfl, fun p np => ?_⟩
  have s1 := same_put (o := .lst ((srtS (ms.map Prod.fst)).map V.str)) np
  have pm := srtS_perm (ms.map Prod.fst)
  have nds := pm.nodup_iff.mpr ndm
  have ep : (upd H p (.lst ((srtS (ms.map Prod.fst)).map V.str))) p = some (.lst ((srtS (ms.map Prod.fst)).map V.str)) := upd_same
  refine ⟨p, rfl, ⟨_, SqL.of ep⟩, fun D nD => ?_⟩
  refine dc_list (K := K) (a := p) (xs := (srtS (ms.map Prod.fst)).map V.str) (fun i G => Same (upd H p (.lst ((srtS (ms.map Prod.fst)).map V.str))) G ∧ ∃ ms', G D = some (.dK (dictOf ms')) ∧ ms'.map Prod.fst = (srtS (ms.map Prod.fst)).take i ∧ ∀ r, r ∈ ms' → r ∈ ms) ⟨same_put nD, [], upd_same, by simp, fun r hr => nomatch hr⟩ (fun i G _ h => SqL.of (h.1 _ _ ep)) ?_ ?_
  · rintro i y G hi ⟨sG, ms', eD, em, hm⟩
    rw [List.getElem?_map] at hi
    obtain ⟨x, hx, rfl⟩ := Option.map_eq_some_iff.mp hi
    have lt : i < (srtS (ms.map Prod.fst)).length := (List.getElem?_eq_some_iff.mp hx).1
    have mx : x ∈ ms.map Prod.fst := pm.mem_iff.mp (List.mem_of_getElem? hx)
    obtain ⟨k, hk, hv⟩ := val_nk mx
    have nx : x ∉ ms'.map Prod.fst := by
      rw [em]
      intro z
      obtain ⟨j, hj⟩ := List.getElem?_of_mem z
      rw [List.getElem?_take] at hj
      split at hj
      · rename_i lj
        have e1 := (List.getElem?_inj (h₀ := Nat.lt_trans lj lt) (h₁ := nds)).mp (hj.trans hx.symm)
        omega
      · cases hj
    have l1 : ms'.length < 100000 := by
      have e := congrArg List.length em
      rw [List.length_map, List.length_take] at e
      have e2 := pm.length_eq
      rw [List.length_map] at e2
      omega
    refine ⟨rfl, (iteT (B := False) ?_ : if true = true then _ else False)⟩
    have haG := sG _ _ (s1 _ _ ha)
    refine ⟨_, rfl, _, rfl, _, rfl, a, .int (k : Int), rfl, ?_, dictOf ms', .inr x, rfl, eD, ?_, fun b o hb => ?_, ms' ++ [(x, k)], ?_, ?_, fun r hr => ?_⟩
    · rw [← hv]
      exact DGet.k (k := .inr x) haG
    · rw [dictOf, List.length_map, sizeLine_eq]
      omega
    · rw [upd_ne (ne_of_none hb nD)]
      exact sG _ _ hb
    · rw [upd_same, put_new nx]
    · rw [List.map_append, em, List.take_add_one, hx]
      rfl
    · rcases List.mem_append.mp hr with hr | hr
      · exact hm r hr
      · rw [List.mem_singleton.mp hr]
        exact hk
  · rintro G ⟨sG, ms', eD, em, hm⟩
    rw [List.length_map, List.take_length] at em
    exact q D ms' G (s1.trans sG) eD em hm
end
end K11
/-! places_in. -/
namespace K11
open PySem PySem.Spec PyProof.Rows L2 Kx
theorem fact_couples {ps : List PyData} {c : PyData} (h : factD (.tuple [.tuple ps, c]) = true) : couplesD (ps ++ endOf c) = true := by
  have h : (couplesD (ps ++ endOf c) && ((ps ++ endOf c).all ordC && chainD (ps.map keyC))) = true := h
  rw [Bool.and_eq_true] at h
  exact h.1
section
variable {P : Program} {w : World} {K : PySem.W.Frag} {mg : Str → Option Value} {base : Heap}
def spPin (K : PySem.W.Frag) : Sp := fun vs H Q _ => ∃ (x : V) (ps : List PyData) (c : PyData), vs = [x] ∧ Fz K H x (.tuple [.tuple ps, c]) ∧ factD (.tuple [.tuple ps, c]) = true ∧
  ∀ p ms' (l : List Str) H', Same H H' → H' p = some (.dK (dictOf ms')) → l.Nodup → (∀ z, z ∈ l ↔ z ∈ (rowsAll (sidesD (ps ++ endOf c))).map Prod.fst) → ms'.map Prod.fst = srtS l → (∀ r, r ∈ ms' → r ∈ rowsAll (sidesD (ps ++ endOf c))) → Q (.ref p) H'
theorem ok_pin (T : Tx K mg) : FnOk P w K mg base (L2.CX P w) 7 T.aplaces_in T.dplaces_in ["fact"] (spPin K) := by
  have nd := sc_places_in.nd
  have GF := ok_ckf (P := P) (w := w) (base := base) T
  have GI := ok_pi (P := P) (w := w) (base := base) T
  have GS := ok_sides (P := P) (w := w) (base := base) T
  have GJ := ok_jointL (P := P) (w := w) (base := base) T
  have GB := ok_bn (P := P) (w := w) (base := base) T
  refine T.fplaces_in.okX sc_places_in (fun vs H Q E h => ?_) (fun cdv A outer s H vs Q E hr h => ?_)
  · obtain ⟨x, ps, c, rfl, _⟩ := h
    rfl
  obtain ⟨x, ps, c, rfl, hx, fx, q⟩ := h
  refine ⟨_, (pss_cons (ps_expr (pe_call GF (hr.mono (by omega)) (by rfl) T.gcheck_fact T.fcheck_fact.kp T.ncheck_fact .nil (passes_call (takes_of rfl rfl rfl rfl) (fun _ _ _ _ h => h)) (pa_cons (pv 0) pa_nil)))
      (pss_one (ps_ret (pe_call GB (hr.mono (by omega)) (by rfl) T.gby_name T.fby_name.kp T.nby_name .nil pass0 (pa_cons (pe_call GJ (hr.mono (by omega)) (by rfl) T.gjoint_places T.fjoint_places.kp T.njoint_places .nil pass0 (pa_cons (pe_call GS (hr.mono (by omega)) (by rfl) T.gsides_of T.fsides_of.kp T.nsides_of .nil pass0 (pa_cons (pe_call GI (hr.mono (by omega)) (by rfl) T.gpairs_in T.fpairs_in.kp T.npairs_in .nil pass0 (pa_cons (pv 0) pa_nil)) pa_nil)) pa_nil)) pa_nil))))), ?_⟩
  obtain ⟨f1, f2, f3, f4⟩ := fz_parts hx
  refine ⟨_, rfl, x, _, rfl, hx, fun _ H1 s1 => ?_, fun z => by rw [fx] at z; cases z⟩
  obtain ⟨f, t, us, v, rfl, hf, ht, hus, hv⟩ := dx_fact (hx.up s1).dx
  have cj := fact_couples fx
  simp only [couplesD, Bool.and_eq_true] at cj
  refine ⟨_, rfl, f, t, us, v, ps, c, rfl, hf, ht, hus, hv, by omega, fun p ys H3 s3 np hp dy => ?_⟩
  refine ⟨p, ys, ps ++ endOf c, rfl, SqL.of hp, dy, cj.1, by omega, fun p3 ys3 H4 s4 hp3 dy3 => ?_⟩
  refine ⟨p3, ys3, _, rfl, SqL.of hp3, dy3, sides_short _ f3, Nat.le_trans (sides_sz _) (by omega), fun z H5 s5 h1 h2 => ?_⟩
  obtain ⟨pm, ms, rfl, _, em, ndm, lm, mem⟩ := h2 cj.2
  have sz := sides_sz (ps ++ endOf c)
  refine ⟨pm, ms, rfl, em, ndm, by omega, fun p6 ms' H6 s6 e6 m6 sub => ?_⟩
  refine q p6 ms' (ms.map Prod.fst) H6 (s1.trans (s3.trans (s4.trans (s5.trans s6)))) e6 ndm (fun z => ?_) m6 fun r hr => (mem r).mp (sub r hr)
  rw [List.mem_map, List.mem_map]
  exact exists_congr fun r => by rw [mem r]
end
end K11
/-! terms_of. -/
namespace K11
open PySem PySem.Spec PyProof.Rows L2 Kx
def tkey (d : PyData) : Str := tS (tx d)
/-- the dict of the terms ds, by their texts -/
structure KtD (K : PySem.W.Frag) (G : Hp) (ds : List PyData) (kvs : List (Key × V)) : Prop where
  nd : (kvs.map Prod.fst).Nodup
  at_ : ∀ p, p ∈ kvs → ∃ d, d ∈ ds ∧ p.1 = .inr (tkey d) ∧ Dx K G p.2 d
  all : ∀ d, d ∈ ds → (.inr (tkey d) : Key) ∈ kvs.map Prod.fst
theorem KtD.nil {K : PySem.W.Frag} {G : Hp} : KtD K G [] [] := ⟨List.nodup_nil, (fun p hp => by cases hp), fun d h => by cases h⟩
theorem KtD.ts {K : PySem.W.Frag} {G G' : Hp} {ds : List PyData} {kvs : List (Key × V)} (h : KtD K G ds kvs) (f : ∀ d, d ∈ ds → formedD d = true) (t : Tups G G') : KtD K G' ds kvs := ⟨h.nd, fun p hp => by
  obtain ⟨d, m, e, dp⟩ := h.at_ p hp
  exact ⟨d, m, e, Dx.ts t _ _ (pure_formed _ (f d m)) dp⟩, h.all⟩
theorem KtD.put {K : PySem.W.Frag} {G : Hp} {ds : List PyData} {d : PyData} {kvs : List (Key × V)} {v : V} (h : KtD K G ds kvs) (dv : Dx K G v d) : KtD K G (ds ++ [d]) (putK kvs (.inr (tkey d)) v) := by
  refine ⟨nodup_put h.nd, fun p hp => ?_, fun e he => ?_⟩
  · rcases mem_put hp with rfl | ⟨hp, _⟩
    · exact ⟨d, by simp, rfl, dv⟩
    · obtain ⟨c, m, e, dp⟩ := h.at_ p hp
      exact ⟨c, List.mem_append_left _ m, e, dp⟩
  · rw [mem_fst_put]
    rcases List.mem_append.mp he with he | he
    · exact .inl (h.all e he)
    · rw [List.mem_singleton.mp he]
      exact .inr rfl
theorem KtD.len {K : PySem.W.Frag} {G : Hp} {ds : List PyData} {kvs : List (Key × V)} (h : KtD K G ds kvs) : kvs.length ≤ ds.length := by
  have := nodup_len (m := ds.map fun d => (.inr (tkey d) : Key)) h.nd fun x hx => by
    obtain ⟨p, hp, rfl⟩ := List.mem_map.mp hx
    obtain ⟨d, m, e, _⟩ := h.at_ p hp
    rw [e]
    exact List.mem_map.mpr ⟨d, m, rfl⟩
  simpa using this
theorem KtD.keys {K : PySem.W.Frag} {G : Hp} {ds : List PyData} {kvs : List (Key × V)} (h : KtD K G ds kvs) : ∃ l : List Str, kvs.map Prod.fst = l.map Sum.inr ∧ l.Nodup ∧ ∀ z, z ∈ l ↔ ∃ d, d ∈ ds ∧ tkey d = z := by
  have key : ∀ ks : List Key, (∀ k, k ∈ ks → ∃ z : Str, k = .inr z) → ∃ l : List Str, ks = l.map Sum.inr := fun ks => by
    induction ks with
    | nil => intro _; exact ⟨[], rfl⟩
    | cons k ks ih =>
      intro hk
      obtain ⟨z, e⟩ := hk k List.mem_cons_self
      obtain ⟨l, e2⟩ := ih fun k hk2 => hk k (List.mem_cons_of_mem _ hk2)
      exact ⟨z :: l, by rw [e, e2]; rfl⟩
  obtain ⟨l, el⟩ := key (kvs.map Prod.fst) fun k hk => by
    obtain ⟨p, hp, rfl⟩ := List.mem_map.mp hk
    obtain ⟨d, _, e, _⟩ := h.at_ p hp
    exact ⟨_, e⟩
  refine ⟨l, el, ?_, fun z => ⟨fun hz => ?_, ?_⟩⟩
  · have := h.nd
    rw [el, List.Nodup, List.pairwise_map] at this
    exact this.imp fun hne e => hne (by rw [e])
  · have : (.inr z : Key) ∈ kvs.map Prod.fst := by rw [el]; exact List.mem_map.mpr ⟨z, hz, rfl⟩
    obtain ⟨p, hp, e⟩ := List.mem_map.mp this
    obtain ⟨d, m, e2, _⟩ := h.at_ p hp
    rw [e] at e2
    exact ⟨d, m, (Sum.inr.inj e2).symm⟩
  · rintro ⟨d, m, rfl⟩
    have := h.all d m
    rw [el] at this
    obtain ⟨y, hy, e⟩ := List.mem_map.mp this
    rw [← Sum.inr.inj e]
    exact hy
theorem srtS_strict {l : List Str} (nd : l.Nodup) : (srtS l).Pairwise fun a b => a.cps.toList < b.cps.toList := by
  have h := sort_strict (k := PyData.str) (l := l) (by
    rw [List.Nodup, List.pairwise_map]
    refine nd.imp fun {x y} ne e => ne ?_
    simp only [PySem.W.keyToks, List.cons.injEq, and_true, true_and] at e
    cases x
    cases y
    simpa using e)
  refine h.imp fun {a b} r => ?_
  have r : PySem.W.dataLt (.str a) (.str b) = true := r
  rwa [PySem.W.dataLt_str, decide_eq_true_iff] at r
/-- the terms of ds, each once, in the order of their texts -/
structure Onc (ds L : List PyData) : Prop where
  mem : ∀ z, z ∈ L ↔ z ∈ ds
  srt : L.Pairwise ltR
theorem onc_of {ds L : List PyData} {l : List Str} (F : Func (rowsAll ds)) (fm : ∀ d, d ∈ ds → formedD d = true) (nd : l.Nodup) (ml : ∀ z, z ∈ l ↔ ∃ d, d ∈ ds ∧ tkey d = z) (eL : L.map tkey = srtS l) (sub : ∀ d, d ∈ L → d ∈ ds) : Onc ds L := by
  have two : ∀ {a b : PyData}, a ∈ ds → b ∈ ds → Func (rowsD a ++ rowsD b) := fun {a b} ha hb => F.sub fun p hp => by
    exact (List.mem_append.mp hp).elim (rows_side ha p) (rows_side hb p)
  refine ⟨fun z => ⟨sub z, fun hz => ?_⟩, ?_⟩
  · have : tkey z ∈ srtS l := (srtS_perm l).mem_iff.mpr ((ml _).mpr ⟨z, hz, rfl⟩)
    rw [← eL] at this
    obtain ⟨d, hd, e⟩ := List.mem_map.mp this
    have := tx_inj (fm d (sub d hd)) (fm z hz) (two (sub d hd) hz) (tS_inj e)
    rw [← this]
    exact hd
  · have h := srtS_strict nd
    rw [← eL, List.pairwise_map] at h
    refine List.Pairwise.imp_of_mem (fun {a b} ha hb lt => ?_) h
    have lt : tx a < tx b := by simpa [tkey, tS] using lt
    exact (tx_lt (fm a (sub a ha)) (fm b (sub b hb)) (two (sub a ha) (sub b hb))).mp lt
end K11
/-! terms_of: the def. -/
namespace K11
open PySem PySem.Spec PyProof.Rows L2 Kx
section
variable {P : Program} {w : World} {K : PySem.W.Frag} {mg : Str → Option Value} {base : Heap}
def spTof (K : PySem.W.Frag) : Sp := fun vs H Q _ => ∃ (x : V) (ps : List PyData) (c : PyData), vs = [x] ∧ Fz K H x (.tuple [.tuple ps, c]) ∧ factD (.tuple [.tuple ps, c]) = true ∧
  ∀ y L H', Same H H' → Dx K H' y (.tuple L) → Onc (sidesD (ps ++ endOf c)) L → Q y H'
theorem ok_tof (T : Tx K mg) : FnOk P w K mg base (L2.CX P w) 7 T.aterms_of T.dterms_of ["fact"] (spTof K) := by
  have nd := sc_terms_of.nd
  have GF := ok_ckf (P := P) (w := w) (base := base) T
  have GI := ok_pi (P := P) (w := w) (base := base) T
  have GS := ok_sides (P := P) (w := w) (base := base) T
  have GW := ok_wr (P := P) (w := w) (base := base) T
  refine T.fterms_of.okX sc_terms_of (fun vs H Q E h => ?_) (fun cdv A outer s H vs Q E hr h => ?_)
  · obtain ⟨x, ps, c, rfl, _⟩ := h
    rfl
  obtain ⟨x, ps, c, rfl, hx, fx, q⟩ := h
  have hu := hu_of hr
  refine ⟨_, (pss_cons (ps_expr (pe_call GF (hr.mono (by omega)) (by rfl) T.gcheck_fact T.fcheck_fact.kp T.ncheck_fact .nil (passes_call (takes_of rfl rfl rfl rfl) (fun _ _ _ _ h => h)) (pa_cons (pv 0) pa_nil)))
      (pss_cons (ps_set (i := 1) nd rfl (.inr rfl) (pe_dc (own := [("term", 2)]) (g := (gName 2)) (tt := tYes) (by rfl) nd (pi_list (pe_call GS (hr.mono (by omega)) (by rfl) T.gsides_of T.fsides_of.kp T.nsides_of .nil pass0 (pa_cons (pe_call GI (hr.mono (by omega)) (by rfl) T.gpairs_in T.fpairs_in.kp T.npairs_in .nil pass0 (pa_cons (pv 0) pa_nil)) pa_nil))) (blkOk_by (own := [("term", 2)]) (N := N_terms_of) (sc := defScope s_terms_of) (by decide +kernel)) (fun _ _ _ _ _ => pg_name (i := 2) nd rfl (.inl rfl)) (fun _ _ _ _ _ => pts_nil) (fun _ _ _ _ _ => (pe_call GW (hr.mono (by omega)) (by rfl) T.gwritten T.fwritten.kp T.nwritten .nil pass0 (pa_cons (pv 2) pa_nil))) (fun _ _ _ _ _ => pv 2)))
      (pss_one (ps_ret (pe_callTy call_tuple_of (by rfl) T.b_tuple (by decide +kernel) (pa_cons (pe_lc (own := [("key", 3)]) (g := (gName 3)) (tt := tYes) (by rfl) nd (pi_list (pe_callB (cr_sortedKS (by rfl) (by have := room200 hr; show (A.deeper _).units + 64 < cLine; omega)) (by rfl) T.b_sorted (by decide +kernel) (pa_cons (pv 1) pa_nil))) (blkOk_by (own := [("key", 3)]) (N := N_terms_of) (sc := defScope s_terms_of) (by decide +kernel)) (fun _ _ _ _ _ => pg_name (i := 3) nd rfl (.inl rfl)) (fun _ _ _ _ _ => pts_nil) (fun _ _ _ _ _ => (pe_dget hu (pv 1) (pv 3) (fun _ _ => rfl)))) pa_nil)))))), ?_⟩
  obtain ⟨f1, f2, f3, f4⟩ := fz_parts hx
  refine ⟨_, rfl, x, _, rfl, hx, fun _ H1 s1 => ?_, fun z => by rw [fx] at z; cases z⟩
  obtain ⟨f, t, us, v, rfl, hf, ht, hus, hv⟩ := dx_fact (hx.up s1).dx
  have cd := fact_couples fx
  have C := couples_cns cd f4
  have cj := cd
  simp only [couplesD, Bool.and_eq_true] at cj
  refine ⟨_, rfl, f, t, us, v, ps, c, rfl, hf, ht, hus, hv, by omega, fun p ys H3 s3 np hp dy => ?_⟩
  refine ⟨p, ys, ps ++ endOf c, rfl, SqL.of hp, dy, cj.1, by omega, fun p3 ys3 H4 s4 hp3 dy3 => ?_⟩
  have s14 := s1.trans (s3.trans s4)
  have wr : ∀ d, d ∈ sidesD (ps ++ endOf c) → Wr d := fun d hd => by
    obtain ⟨z, hz, hd⟩ := List.mem_flatMap.mp hd
    obtain ⟨a, b, rfl, wa, wb⟩ := C.c z hz
    simp only [sidesOf, List.mem_cons, List.not_mem_nil, or_false] at hd
    rcases hd with rfl | rfl
    · exact wa
    · exact wb
  have lS : (sidesD (ps ++ endOf c)).length ≤ 10000 := by
    have h : ∀ ds : List PyData, ds.length ≤ szAll ds := fun ds => by
      induction ds with
      | nil => exact Nat.zero_le _
      | cons d ds ih =>
        rw [szAll, List.length_cons]
        have : 1 ≤ szD d := by cases d <;> simp [szD] <;> omega
        omega
    exact Nat.le_trans (h _) (Nat.le_trans (sides_sz _) f4)
  have ly := dy3.length
  refine ⟨p3, rfl, ⟨_, SqL.of hp3⟩, fun D nD => ?_⟩
  refine dc_list (K := K) (a := p3) (xs := ys3) (fun i G => Same H4 G ∧ ∃ kvs, G D = some (.dK kvs) ∧ KtD K G ((sidesD (ps ++ endOf c)).take i) kvs) ⟨same_put nD, [], upd_same, .nil⟩ (fun i G _ h => SqL.of (h.1 _ _ hp3)) ?_ ?_
  · rintro i y G hi ⟨sG, kvs, eD, kt⟩
    have lt : i < (sidesD (ps ++ endOf c)).length := by
      rw [← ly]
      exact (List.getElem?_eq_some_iff.mp hi).1
    have gd := List.getElem?_eq_getElem lt
    obtain ⟨v2, hv2, dv2⟩ := dy3.get gd
    rw [hi] at hv2
    cases hv2
    have wd := wr _ (List.getElem_mem lt)
    refine ⟨rfl, (iteT (B := False) ?_ : if true = true then _ else False)⟩
    refine ⟨_, rfl, y, _, rfl, dv2.up sG, wd.f, wd.w, wd.t, fun G2 s5 => ?_⟩
    have eD2 := s5 _ _ eD
    have lk := kt.len
    rw [List.length_take] at lk
    refine ⟨_, rfl, kvs, .inr (tkey (sidesD (ps ++ endOf c))[i]), rfl, eD2, by rw [sizeLine_eq]; omega, fun b o hb => ?_, _, upd_same, ?_⟩
    · rw [upd_ne (ne_of_none hb nD)]
      exact s5 _ _ (sG _ _ hb)
    · have tf : Tups G (upd G2 D (.dK (putK kvs (.inr (tkey (sidesD (ps ++ endOf c))[i])) y))) := fun z us hz => by
        have hz := s5 _ _ hz
        rw [upd_ne (ne_of hz eD2 (fun e => nomatch e))]
        exact hz
      rw [List.take_add_one, gd]
      exact (kt.ts (fun d hd => (wr d (List.mem_of_mem_take hd)).f) tf).put (Dx.ts tf _ _ (pure_formed _ wd.f) (dv2.up sG))
  rintro G ⟨sG, kvs, eD, kt⟩
  rw [ly, List.take_length] at kt
  obtain ⟨l, el, ndl, ml⟩ := kt.keys
  refine ⟨_, rfl, D, kvs, l, rfl, eD, el, fun p6 np6 => ?_⟩
  have s6 := same_put (o := .lst ((srtS l).map V.str)) np6
  have e6 : (upd G p6 (.lst ((srtS l).map V.str))) p6 = some (.lst ((srtS l).map V.str)) := upd_same
  refine ⟨p6, rfl, ⟨_, SqL.of e6⟩, fun D2 nD2 => ?_⟩
  refine lc_list (K := K) (a := p6) (xs := (srtS l).map V.str) (fun i G2 => Same (upd G p6 (.lst ((srtS l).map V.str))) G2 ∧ ∃ ws L, G2 D2 = some (.lst ws) ∧ DxAll K G2 ws L ∧ L.map tkey = (srtS l).take i ∧ ∀ d, d ∈ L → d ∈ sidesD (ps ++ endOf c)) ⟨same_put nD2, [], [], upd_same, .nil, by simp, fun d hd => nomatch hd⟩ (fun i G2 _ h => SqL.of (h.1 _ _ e6)) ?_ ?_
  · rintro i y G2 hi ⟨s7, ws, L, eD2, dw, em, sub⟩
    rw [List.getElem?_map] at hi
    obtain ⟨z, hz, rfl⟩ := Option.map_eq_some_iff.mp hi
    have mz : z ∈ l := (srtS_perm l).mem_iff.mp (List.mem_of_getElem? hz)
    have mk : (.inr z : Key) ∈ kvs.map Prod.fst := by rw [el]; exact List.mem_map.mpr ⟨z, mz, rfl⟩
    obtain ⟨⟨k0, v0⟩, hp0, e0⟩ := List.mem_map.mp mk
    obtain ⟨d, md, e1, dd⟩ := kt.at_ _ hp0
    dsimp only at e0 e1 dd
    subst e0
    have ez : z = tkey d := Sum.inr.inj e1
    have hval := val_of_mem kt.nd hp0
    have sA := s6.trans s7
    have lw : ws.length ≤ 10000 := by
      have e := congrArg List.length em
      rw [List.length_map, List.length_take] at e
      have e2 := (srtS_perm l).length_eq
      have e3 := congrArg List.length el
      rw [List.length_map, List.length_map] at e3
      have := kt.len
      have := dw.length
      omega
    refine ⟨rfl, (iteT (B := False) ?_ : if true = true then _ else False)⟩
    refine ⟨_, rfl, _, rfl, D, v0, rfl, ?_, ws, eD2, by rw [sizeLine_eq]; omega, fun b o hb => ?_, ws ++ [v0], L ++ [d], upd_same, ?_, ?_, fun e he => ?_⟩
    · rw [← hval]
      exact DGet.k (k := .inr z) (sA _ _ eD)
    · rw [upd_ne (ne_of_none hb nD2)]
      exact s7 _ _ hb
    · have tl := Tups.lst (ys := ws ++ [v0]) eD2
      have pl : pureAll L = true := pure_formedAll _ (by
        have : ∀ L : List PyData, (∀ d, d ∈ L → formedD d = true) → formedAll L = true := fun L => by
          induction L with
          | nil => intro _; rfl
          | cons x L ih => intro h; rw [formedAll, h x List.mem_cons_self, ih fun y hy => h y (List.mem_cons_of_mem _ hy)]; rfl
        exact this L fun d hd => (wr d (sub d hd)).f)
      exact DxAll.append (DxAll.ts tl _ _ pl dw) (.cons (Dx.ts tl _ _ (pure_formed _ (wr d md).f) (dd.up sA)) .nil)
    · rw [List.map_append, em, List.take_add_one, hz, ez]
      rfl
    · rcases List.mem_append.mp he with he | he
      · exact sub e he
      · rw [List.mem_singleton.mp he]
        exact md
  · rintro G2 ⟨s7, ws, L, eD2, dw, em, sub⟩
    rw [List.length_map, List.take_length] at em
    refine ⟨D2, ws, rfl, .inl ⟨SqL.of eD2, fun t2 nt2 => ?_⟩⟩
    have st := same_put (o := .tup ws) nt2
    exact q _ L _ (s14.trans (sG.trans (s6.trans (s7.trans st)))) (.tup upd_same (dw.up st)) (onc_of C.f (fun d hd => (wr d hd).f) ndl ml em sub)
end
end K11
/-! sizes_of. -/
namespace K11
open PySem PySem.Spec PyProof.Rows L2 Kx
def szI (t : PyData) : Int := ((preD t).length : Int)
theorem sum_pre : ∀ es : List PyData, (es.map szI).sum = ((preAll es).length : Int)
  | [] => rfl
  | e :: es => by
    rw [List.map_cons, List.sum_cons, sum_pre es, preAll, List.length_append, szI]
    omega
theorem at_num {ts : List PyData} : ∀ {is : List Nat} {es : List PyData} {j n : Nat}, AtAll ts is es → is[j]? = some n → ∃ e, es[j]? = some e ∧ ts[n]? = some e
  | [], _, _, _, _, h => by simp at h
  | i :: is, [], _, _, h, _ => h.elim
  | i :: is, e :: es, 0, n, h, hn => by
    simp at hn
    subst hn
    exact ⟨e, rfl, h.1⟩
  | i :: is, e :: es, j + 1, n, h, hn => by
    obtain ⟨d, h1, h2⟩ := at_num h.2 (j := j) (by simpa using hn)
    exact ⟨d, by simpa using h1, h2⟩
theorem dx_nums {K : PySem.W.Frag} {H : Hp} : ∀ {is : List Nat} {us : List V}, DxAll K H us ((numK is).map keyD) → us = numV is
  | [], _, h => by cases h; rfl
  | i :: is, _, h => by
    cases h with
    | cons a b =>
      cases a
      rw [dx_nums b]
      rfl
theorem isKeys_get {H : Hp} : ∀ {kvs : List (List Key × V)} {bs : List Addr} {i : Nat} {b : Addr}, IsKeys H kvs bs → bs[i]? = some b → ∃ p, kvs[i]? = some p ∧ H b = some (.tup (p.1.map kV))
  | _, _, _, _, .nil, h => by simp at h
  | p :: _, b :: _, 0, _, .cons a _, h => by
    simp at h
    subst h
    exact ⟨p, rfl, a⟩
  | p :: _, b :: _, i + 1, _, .cons _ t, h => by
    obtain ⟨q, h1, h2⟩ := isKeys_get t (i := i) (by simpa using h)
    exact ⟨q, by simpa using h1, h2⟩
section
variable {P : Program} {w : World} {K : PySem.W.Frag} {mg : Str → Option Value} {base : Heap}
def spSz (K : PySem.W.Frag) : Sp := fun vs H Q _ => ∃ (a : Addr) (bs : List Addr) (ts : List PyData) (kvs : List (List Key × V)), vs = [.ref a] ∧ H a = some (.lst (bs.map V.ref)) ∧ IsKeys H kvs bs ∧ Tab ts kvs ∧ formedAll ts = true ∧ ts.length ≤ 100000 ∧ bs.length = ts.length ∧
  ∀ p H', Same H H' → H' p = some (.lst ((ts.map szI).map V.int)) → Q (.ref p) H'
theorem ok_sz (T : Tx K mg) : FnOk P w K mg base CX0 1 T.asizes_of T.dsizes_of ["rows"] (spSz K) := by
  have nd := sc_sizes_of.nd
  refine T.fsizes_of.ok sc_sizes_of (fun vs H Q E h => ?_) (fun cdv A outer s H vs Q E hr h => ?_)
  · obtain ⟨a, bs, ts, kvs, rfl, _⟩ := h
    rfl
  obtain ⟨a, bs, ts, kvs, rfl, ha, ik, tab, ft, lt0, lb, q⟩ := h
  refine ⟨_, (pss_cons (ps_set (i := 1) nd rfl (.inr rfl) (pe_lst pa_nil))
      (pss_cons (ps_for PassesOwn.never rfl (pi_list (pv 0)) (pg_name (i := 2) nd rfl (.inl rfl)) (pss_one (ps_expr (pe_bm PySem.F.plainAttrs_list PySem.F.slot_list_append PySem.F.type_list_append mt_append (pv 1) (pa_cons (pe_op op_add pe_int (pe_callB (cr_sum (by rfl)) (by rfl) T.b_sum (by decide +kernel) (pa_cons (pe_lc (own := [("number", 3)]) (g := (gName 3)) (tt := tYes) (by rfl) nd (pi_tup (pe_slice sl_tupA (pv 2) (po_some pe_int) po_none)) (blkOk_by (own := [("number", 3)]) (N := N_sizes_of) (sc := defScope s_sizes_of) (by decide +kernel)) (fun _ _ _ _ _ => pg_name (i := 3) nd rfl (.inl rfl)) (fun _ _ _ _ _ => pts_nil) (fun _ _ _ _ _ => (pe_ix (r := rIxL K) ix_list (pv 1) (pv 3) (fun _ _ => rfl)))) pa_nil))) pa_nil)))))
      (pss_one (ps_ret (pv 1))))), ?_⟩
  refine ⟨Nat.zero_le _, fun f nf => ?_⟩
  have s0 := same_put (o := .lst []) nf
  have naf : a ≠ f := ne_of_none ha nf
  refine ⟨_, rfl, a, rfl, ⟨_, SqL.of (s0 _ _ ha)⟩, for_list (K := K) (a := a) (xs := bs.map V.ref) (fun i σ G => Same H G ∧ ∃ y2 y3, σ = [some (.ref a), some (.ref f), y2, y3] ∧ G f = some (.lst (((ts.take i).map szI).map V.int))) ⟨s0, none, none, rfl, upd_same⟩ (fun i σ G _ h => SqL.of (h.1 _ _ ha)) ?_ ?_⟩
  · rintro i y σ G hi ⟨sG, y2, y3, rfl, ef⟩
    rw [List.getElem?_map] at hi
    obtain ⟨b, hb, rfl⟩ := Option.map_eq_some_iff.mp hi
    have lti : i < ts.length := by
      rw [← lb]
      exact (List.getElem?_eq_some_iff.mp hb).1
    have gd := List.getElem?_eq_getElem lti
    obtain ⟨p, hp, hbk⟩ := isKeys_get ik hb
    obtain ⟨key, hkey, x, es, is, et, ek, at_⟩ := tab.ord i _ gd
    rw [hp] at hkey
    have e1 : p.1 = key := by cases hkey; rfl
    rw [e1, ek] at hbk
    have hbG := sG _ _ hbk
    have dxr : Dx K G (.ref b) (.tuple (.str x :: (numK is).map keyD)) := .tup hbG (.cons (.str x) (dx_keys _))
    refine ⟨_, rfl, .inl ⟨rfl, _, SqL.of ef⟩, _, rfl, 1, rfl, ?_⟩
    dsimp only [tNoPart]
    refine sl_from (S := []) (i := 1) (dxr.up offs_nil) olds_nil fun y H2 s2 dy => ?_
    have dy := dy.up OffS.all
    rw [List.drop_one, List.tail_cons] at dy
    cases dy with
    | @tup cc us _ hc hus =>
    have eu := dx_nums hus
    subst eu
    refine ⟨cc, rfl, ⟨_, SqT.of hc⟩, fun D nD => ?_⟩
    have lie := at_.len
    have ef2 := s2 _ _ ef
    refine lc_tup (K := K) (a := cc) (xs := numV is) (fun j H3 => Same H2 H3 ∧ H3 D = some (.lst (((es.take j).map szI).map V.int))) ⟨same_put nD, upd_same⟩ (fun j H3 _ h => SqT.of (h.1 _ _ hc)) ?_ ?_
    · rintro j y H3 hj ⟨s3, eD⟩
      rw [numV, List.getElem?_map] at hj
      obtain ⟨n, hn, rfl⟩ := Option.map_eq_some_iff.mp hj
      obtain ⟨e, he, hte⟩ := at_num at_ hn
      have ltj : j < es.length := (List.getElem?_eq_some_iff.mp he).1
      have e3 : (((ts.take i).map szI).map V.int)[n]? = some (.int (szI e)) := by
        rw [List.getElem?_map, List.getElem?_map, hte]
        rfl
      refine ⟨rfl, (iteT (B := False) ?_ : if true = true then _ else False)⟩
      have f3 : es.length ≤ 3 := by
        have := formedAll_get ft gd
        rw [et] at this
        obtain ⟨_, es', e, l3, _⟩ := formed_shape this
        simp only [PyData.tuple.injEq, List.cons.injEq] at e
        rw [e.2]
        exact l3
      refine ⟨_, rfl, _, rfl, f, _, (n : Int), .int (szI e), rfl, rfl, SqL.of (s3 _ _ ef2), atI_nat e3, _, eD, by rw [List.length_map, List.length_map, List.length_take]; exact small1000 (by omega), fun k o hk => ?_, ?_⟩
      · rw [upd_ne (ne_of_none hk nD)]
        exact s3 _ _ hk
      · rw [upd_same, List.take_add_one, he, Option.toList_some, List.map_append, List.map_append]
        rfl
    · rintro H3 ⟨s3, eD⟩
      have ln : (numV is).length = es.length := by rw [numV, List.length_map, lie]
      rw [ln, List.take_length] at eD
      refine ⟨D, es.map szI, rfl, SqL.of eD, 1, _, rfl, rfl, f, _, _, rfl, rfl, s3 _ _ ef2, ?_, ?_⟩
      · rw [List.length_map, List.length_map, List.length_take, sizeLine_eq]
        omega
      · have ets : szI ts[i] = 1 + (es.map szI).sum := by
          rw [sum_pre, et, szI, preD, List.length_cons]
          omega
        have nfH : ∀ z o, H z = some o → z ≠ f := fun z o hz => ne_of_none hz nf
        refine ⟨fun z o hz => ?_, _, _, rfl, ?_⟩
        · rw [upd_ne (nfH z o hz)]
          exact s3 _ _ (s2 _ _ (sG _ _ hz))
        · rw [upd_same, List.take_add_one, gd, Option.toList_some, List.map_append, List.map_append, List.map_singleton, List.map_singleton, ets]
  · rintro σ G ⟨sG, y2, y3, rfl, ef⟩
    rw [List.length_map, lb, List.take_length] at ef
    exact ⟨_, rfl, q f G sG ef⟩
end
end K11
/-! The law's own texts. -/
namespace K11
open PySem PySem.Spec PyProof.Rows L2 Kx
theorem tx_part {ds : List PyData} {i : Nat} {d : PyData} : ds[i]? = some d → (tx d).length ≤ (txM ds).length := by
  induction ds generalizing i with
  | nil => intro h; simp at h
  | cons e ds ih =>
    intro h
    rw [txM, List.length_cons, List.length_append]
    cases i with
    | zero =>
      simp at h
      rw [h]
      omega
    | succ i =>
      have := ih (i := i) (by simpa using h)
      omega
theorem txA_len (ds : List PyData) : (txM ds).length ≤ (txA ds).length := by
  cases ds with
  | nil => exact Nat.le_refl _
  | cons e ds =>
    simp only [txM, txA, List.length_cons, List.length_append]
    omega
theorem txM_sum : ∀ l : List PyData, ((l.map fun e => tS (tx e)).map (·.length)).sum + l.length = (txM l).length
  | [] => rfl
  | e :: l => by
    have := txM_sum l
    rw [List.map_cons, List.map_cons, List.sum_cons, tS_len, List.length_cons, txM, List.length_cons, List.length_append]
    omega
section
variable {P : Program} {w : World} {K : PySem.W.Frag} {mg : Str → Option Value} {base : Heap}
def spTxt (K : PySem.W.Frag) (n : Nat) : Sp := fun vs H Q _ => ∃ (x : V) (d : PyData), vs = [x] ∧ Dx K H x d ∧ formedD d = true ∧ d.depth ≤ n ∧ (tx d).length ≤ 1000000 ∧ ∀ H', Same H H' → Q (.str (tS (tx d))) H'
theorem ok_txt (T : Tx K mg) : ∀ n, FnOk P w K mg base CX0 (n + 1) T.a_law_text T.d_law_text ["term"] (spTxt K n)
  | 0 => by
    refine T.f_law_text.ok sc__law_text (fun vs H Q E h => ?_) (fun cdv A outer s H vs Q E hr h => ?_)
    · obtain ⟨x, d, rfl, _⟩ := h
      rfl
    · exfalso
      obtain ⟨x, d, rfl, hx, hf, hd, _⟩ := h
      obtain ⟨z, ds, rfl, _⟩ := formed_shape hf
      simp [PyData.depth] at hd
  | n + 1 => by
    have nd := sc__law_text.nd
    have G := ok_txt T n
    refine T.f_law_text.ok sc__law_text (fun vs H Q E h => ?_) (fun cdv A outer s H vs Q E hr h => ?_)
    · obtain ⟨x, d, rfl, _⟩ := h
      rfl
    · obtain ⟨x, d, rfl, hx, hf, hd, hl, q⟩ := h
      refine ⟨_, (pss_cons (ps_if (pt_cmpR op_eq (pe_callB call_len_seq (by rfl) T.b_len (by decide +kernel) (pa_cons (pv 0) pa_nil)) pe_int (nomark _)) (pss_one (ps_ret (pe_ix ix_tup (pv 0) pe_int (fun _ _ => rfl)))) pss_nil)
      (pss_one (ps_ret (pe_op op_add_str (pe_op op_add_str (pe_op op_add_str (pe_ix ix_tup (pv 0) pe_int (fun _ _ => rfl)) pe_str) (pe_bm PySem.F.plainAttrs_str PySem.F.slot_str_join PySem.F.type_str_join mt_join pe_str (pa_cons (pe_lc (own := [("part", 1)]) (g := (gName 1)) (tt := tYes) (by rfl) nd (pi_tup (pe_slice sl_tupA (pv 0) (po_some pe_int) po_none)) (blkOk_by (own := [("part", 1)]) (N := N__law_text) (sc := defScope s__law_text) (by decide +kernel)) (fun _ _ _ _ _ => pg_name (i := 1) nd rfl (.inl rfl)) (fun _ _ _ _ _ => pts_nil) (fun _ _ _ _ _ => (pe_call G (hr.mono (by omega)) (by rfl) T.g_law_text T.f_law_text.kp T.n_law_text .nil pass0 (pa_cons (pv 1) pa_nil)))) pa_nil))) pe_str)))), ?_⟩
      obtain ⟨nm, ds, rfl, l3, hnm, hfa⟩ := formed_shape hf
      cases hx with
      | @tup b xs _ hb hs =>
      cases hs with
      | @cons v0 vs0 _ _ h0 hws =>
      cases h0
      have lw := hws.length
      have hn8 : nm.length ≤ 8 := by
        simp only [isNm, Bool.and_eq_true, decide_eq_true_eq] at hnm
        exact hnm.1.2
      refine ⟨_, rfl, b, _, rfl, .inr (SqT.of hb), rfl, _, rfl, ite2 (fun e1 => ?_) (fun e1 => ?_)⟩
      · have n0 : ds = [] := by
          have z := V.int.inj (of_decide_eq_true e1)
          refine List.eq_nil_of_length_eq_zero ?_
          rw [List.length_cons] at z
          omega
        subst n0
        have := q H (Same.refl H)
        rw [show tS (tx (.tuple [.str nm])) = nm by simp [tx, nmC, txA, tS_list]] at this
        exact ⟨_, rfl, b, _, 0, .str nm, rfl, rfl, SqT.of hb, atI_nat (j := 0) rfl, this⟩
      · cases hws with
        | nil => exact absurd rfl e1
        | @cons v1 vr d1 rest hv1 hrest =>
        have hw2 : DxAll K H (v1 :: vr) (d1 :: rest) := .cons hv1 hrest
        have dd : PyData.depthAll (d1 :: rest) ≤ n := by
          simp only [PyData.depth, PyData.depthAll] at hd ⊢
          omega
        have lenA : (txM (d1 :: rest)).length ≤ 1000000 := by
          have := txA_len (d1 :: rest)
          have e : tx (.tuple (.str nm :: d1 :: rest)) = nm.cps.toList ++ txA (d1 :: rest) := by simp [tx, nmC]
          rw [e, List.length_append] at hl
          omega
        refine ⟨_, rfl, b, _, 0, .str nm, rfl, rfl, SqT.of hb, atI_nat (j := 0) rfl, nm, "(", rfl, rfl, Nat.le_of_lt (small1000 (by show nm.length + 1 ≤ 1000; omega)), ?_⟩
        refine ⟨rfl, _, rfl, 1, rfl, ?_⟩
        dsimp only [tNoPart]
        refine sl_from (S := []) (i := 1) ((Dx.tup hb (.cons (.str nm) hw2)).up offs_nil) olds_nil fun y H1 s1 dy => ?_
        have dy := dy.up OffS.all
        rw [List.drop_one, List.tail_cons] at dy
        cases dy with
        | @tup c us _ hc hus =>
        refine ⟨c, rfl, ⟨_, SqT.of hc⟩, fun D nD => ?_⟩
        have lus := hus.length
        have l3' : us.length ≤ 3 := by omega
        refine lc_tup (K := K) (a := c) (xs := us) (fun i H2 => Same H1 H2 ∧ H2 D = some (.lst (((d1 :: rest).take i).map fun e => V.str (tS (tx e))))) ⟨same_put nD, upd_same⟩ (fun i H2 _ h => SqT.of (h.1 _ _ hc)) ?_ ?_
        · rintro i y H2 hi ⟨s2, e2⟩
          have lt : i < (d1 :: rest).length := by
            rw [← lus]
            exact (List.getElem?_eq_some_iff.mp hi).1
          have gd := List.getElem?_eq_getElem lt
          obtain ⟨v2, hv2, dv2⟩ := hus.get gd
          rw [hi] at hv2
          cases hv2
          have tl := tx_part gd
          refine ⟨rfl, (iteT (B := False) ?_ : if true = true then _ else False)⟩
          refine ⟨_, rfl, y, _, rfl, dv2.up s2, formedAll_get hfa gd, Nat.le_trans (depthAll_get gd) dd, by omega, fun H3 s3 => ⟨_, s3 _ _ e2, ?_, fun o ob ho => ?_, ?_⟩⟩
          · rw [List.length_map, List.length_take]
            exact small1000 (by omega)
          · rw [upd_ne (ne_of_none ho nD)]
            exact s3 _ _ (s2 _ _ ho)
          · rw [upd_same, List.take_add_one, gd, List.map_append]
            rfl
        · rintro H2 ⟨s2, e2⟩
          rw [lus, List.take_length] at e2
          have ej : Txt.join "," ((d1 :: rest).map fun e => tS (tx e)) = tS (tx d1 ++ txM rest) := by
            rw [List.map_cons, join_comma]
            have : ∀ l : List PyData, (l.map fun e => tS (tx e)).flatMap (fun p => 44 :: p.cps.toList) = txM l := by
              intro l
              induction l with
              | nil => rfl
              | cons a l ih =>
                rw [List.map_cons, List.flatMap_cons, ih, txM]
                show 44 :: (tS (tx a)).cps.toList ++ _ = _
                rw [show (tS (tx a)).cps.toList = tx a from List.toList_toArray ..]
                rfl
            rw [this, show (tS (tx d1)).cps.toList = tx d1 from List.toList_toArray ..]
          have fin := q H2 (s1.trans s2)
          have et : tS (tx (.tuple (.str nm :: d1 :: rest))) = nm ++ "(" ++ tS (tx d1 ++ txM rest) ++ ")" := by
            rw [← tS_list (nm ++ "(" ++ tS (tx d1 ++ txM rest) ++ ")"), str_app, str_app, str_app, show (tS (tx d1 ++ txM rest)).cps.toList = tx d1 ++ txM rest from List.toList_toArray ..]
            congr 1
            show nm.cps.toList ++ 40 :: (tx d1 ++ (txM rest ++ [41])) = nm.cps.toList ++ [40] ++ (tx d1 ++ txM rest) ++ [41]
            simp
          rw [et] at fin
          have sm := txM_sum (d1 :: rest)
          have eM : (tx d1 ++ txM rest).length + 1 = (txM (d1 :: rest)).length := by
            rw [txM, List.length_cons]
          have lj : (nm ++ "(").length = nm.length + 1 := by
            show (nm ++ "(").cps.size = _
            rw [← Array.length_toList, str_app, List.length_append, Array.length_toList]
            rfl
          refine ⟨",", D, (d1 :: rest).map fun e => tS (tx e), rfl, rfl, .inl (.inl (.inl (by rw [e2, List.map_map]; rfl))), ?_, ?_⟩
          · rw [List.length_map]
            show _ + (d1 :: rest).length * 1 ≤ _
            rw [Nat.mul_one]
            omega
          rw [ej]
          have lt : (tS (tx d1 ++ txM rest)).length = (tx d1 ++ txM rest).length := tS_len _
          have l2 : (nm ++ "(" ++ tS (tx d1 ++ txM rest)).length = nm.length + 1 + (tx d1 ++ txM rest).length := by
            show (nm ++ "(" ++ tS (tx d1 ++ txM rest)).cps.size = _
            rw [← Array.length_toList, str_app, List.length_append, Array.length_toList, ← lj, ← lt, Array.length_toList]
            rfl
          refine ⟨_, _, rfl, rfl, ?_, _, _, rfl, rfl, ?_, fin⟩
          · rw [lj, lt]
            exact Nat.le_trans (show nm.length + 1 + (tx d1 ++ txM rest).length ≤ 1000020 by omega) (by decide)
          · rw [l2]
            exact Nat.le_trans (show nm.length + 1 + (tx d1 ++ txM rest).length + 1 ≤ 1000020 by omega) (by decide)
end
end K11
/-! {k: v for i, x in enumerate(xs)}. -/
namespace Kx
open PySem PySem.Spec PyProof.Rows L2
theorem dc_enum {K : PySem.W.Frag} {a : Addr} {xs : List V} {g : TG} {tt : TT} {tk tv : TE} {vs : List Nat} {σ : L2.St} {H1 : Hp} {D : Addr} {Qd : Hp → Prop} (Pv : Nat → Hp → Prop) (h0 : Pv 0 (upd H1 D (.dK []))) (hl : ∀ i H, i ≤ xs.length → Pv i H → SqL K H a xs)
    (hs : ∀ i x T H, xs[i]? = some x → H T = none → Pv i H → g (.ref T) (wipe σ vs) (upd H T (.tup [.int (i : Nat), x])) fun σ2 H2 => wipe σ2 vs = wipe σ vs ∧ tt σ2 H2 fun b H3 =>
      if b = true then tk σ2 H3 fun y H4 => tv σ2 H4 fun z H5 => ∃ kvs k, y = kV k ∧ H5 D = some (.dK kvs) ∧ kvs.length < sizeLine ∧ Pv (i + 1) (upd H5 D (.dK (putK kvs k z))) else Pv (i + 1) H3) (hd : ∀ H, Pv xs.length H → Qd H) :
    ∃ W : Nat → Nat → Hp → Prop, (∃ m, W 0 m (upd H1 D (.dK []))) ∧ ∀ i m H, W i m H →
      ((Ite K a).stop i H ∧ Qd H) ∨ ((Ite K a).go i H ∧ ∃ Nx : Hp → Prop, (∀ H', Nx H' → ∃ m', m' < m ∧ W (i + 1) m' H') ∧ ∀ x H', (Ite K a).yld i H x H' → g x (wipe σ vs) H' fun σ2 H2 => wipe σ2 vs = wipe σ vs ∧ tt σ2 H2 fun b H3 =>
        if b = true then tk σ2 H3 fun y H4 => tv σ2 H4 fun z H5 => ∃ kvs k, y = kV k ∧ H5 D = some (.dK kvs) ∧ kvs.length < sizeLine ∧ Nx (upd H5 D (.dK (putK kvs k z))) else Nx H3) := by
  refine ⟨fun i m H => m = xs.length - i ∧ i ≤ xs.length ∧ Pv i H, ⟨xs.length, by simp, Nat.zero_le _, h0⟩, ?_⟩
  rintro i m H ⟨rfl, hi, p⟩
  have q := hl i H hi p
  by_cases hlt : i < xs.length
  · refine .inr ⟨⟨xs, xs[i], q, by simp [hlt]⟩, Pv (i + 1), fun H' p' => ⟨xs.length - (i + 1), by omega, rfl, hlt, p'⟩, fun x H' y => ?_⟩
    obtain ⟨T, x0, rfl, nT, rfl, y⟩ := y
    exact hs i x0 T H (y xs q) nT p
  · have e : i = xs.length := by omega
    subst e
    exact .inl ⟨⟨xs, q, Nat.le_refl _⟩, hd H p⟩
theorem dc_zip {K : PySem.W.Frag} {a b : Addr} {xs ys : List V} {g : TG} {tt : TT} {tk tv : TE} {vs : List Nat} {σ : L2.St} {H1 : Hp} {D : Addr} {Qd : Hp → Prop} (el : xs.length = ys.length) (Pv : Nat → Hp → Prop) (h0 : Pv 0 (upd H1 D (.dK []))) (hl : ∀ i H, i ≤ xs.length → Pv i H → SqL K H a xs ∧ SqL K H b ys)
    (hs : ∀ i x y T H, xs[i]? = some x → ys[i]? = some y → H T = none → Pv i H → g (.ref T) (wipe σ vs) (upd H T (.tup [x, y])) fun σ2 H2 => wipe σ2 vs = wipe σ vs ∧ tt σ2 H2 fun b H3 =>
      if b = true then tk σ2 H3 fun y H4 => tv σ2 H4 fun z H5 => ∃ kvs k, y = kV k ∧ H5 D = some (.dK kvs) ∧ kvs.length < sizeLine ∧ Pv (i + 1) (upd H5 D (.dK (putK kvs k z))) else Pv (i + 1) H3) (hd : ∀ H, Pv xs.length H → Qd H) :
    ∃ W : Nat → Nat → Hp → Prop, (∃ m, W 0 m (upd H1 D (.dK []))) ∧ ∀ i m H, W i m H →
      ((Itz K a b).stop i H ∧ Qd H) ∨ ((Itz K a b).go i H ∧ ∃ Nx : Hp → Prop, (∀ H', Nx H' → ∃ m', m' < m ∧ W (i + 1) m' H') ∧ ∀ x H', (Itz K a b).yld i H x H' → g x (wipe σ vs) H' fun σ2 H2 => wipe σ2 vs = wipe σ vs ∧ tt σ2 H2 fun b H3 =>
        if b = true then tk σ2 H3 fun y H4 => tv σ2 H4 fun z H5 => ∃ kvs k, y = kV k ∧ H5 D = some (.dK kvs) ∧ kvs.length < sizeLine ∧ Nx (upd H5 D (.dK (putK kvs k z))) else Nx H3) := by
  refine ⟨fun i m H => m = xs.length - i ∧ i ≤ xs.length ∧ Pv i H, ⟨xs.length, by simp, Nat.zero_le _, h0⟩, ?_⟩
  rintro i m H ⟨rfl, hi, p⟩
  obtain ⟨q1, q2⟩ := hl i H hi p
  by_cases hlt : i < xs.length
  · have hlt2 : i < ys.length := by omega
    refine .inr ⟨⟨xs, ys, xs[i], ys[i], q1, q2, by simp [hlt], by simp [hlt2]⟩, Pv (i + 1), fun H' p' => ⟨xs.length - (i + 1), by omega, rfl, hlt, p'⟩, fun x H' y => ?_⟩
    obtain ⟨T, x0, y0, rfl, nT, rfl, e1, e2⟩ := y
    exact hs i x0 y0 T H (e1 xs q1) (e2 ys q2) nT p
  · have e : i = xs.length := by omega
    subst e
    exact .inl ⟨⟨xs, ys, q1, q2, .inl (Nat.le_refl _)⟩, hd H p⟩
end Kx
/-! order_of. -/
namespace K11
open PySem PySem.Spec PyProof.Rows L2 Kx
theorem len_app (a b : Str) : (a ++ b).length = a.length + b.length := by
  show (a ++ b).cps.size = _
  rw [← Array.length_toList, str_app, List.length_append, Array.length_toList, Array.length_toList]
  rfl
theorem emp_app (x : Str) : Str.empty ++ x = x := by
  rw [← tS_list (Str.empty ++ x), str_app]
  exact tS_list x
theorem tx_none (x : Str) : tkey (.tuple [.str x]) = x := by simp [tkey, tx, nmC, txA, tS_list]
theorem join_tx (d : PyData) (rest : List PyData) : Txt.join "," ((d :: rest).map tkey) = tS (tx d ++ txM rest) := by
  rw [List.map_cons, join_comma]
  have : ∀ l : List PyData, (l.map tkey).flatMap (fun p => 44 :: p.cps.toList) = txM l := by
    intro l
    induction l with
    | nil => rfl
    | cons a l ih =>
      rw [List.map_cons, List.flatMap_cons, ih, txM]
      show 44 :: (tS (tx a)).cps.toList ++ _ = _
      rw [show (tS (tx a)).cps.toList = tx a from List.toList_toArray ..]
      rfl
  rw [this]
  show tS ((tS (tx d)).cps.toList ++ _) = _
  rw [show (tS (tx d)).cps.toList = tx d from List.toList_toArray ..]
theorem tx_some (nm : Str) (d : PyData) (rest : List PyData) : tkey (.tuple (.str nm :: d :: rest)) = nm ++ "(" ++ tS (tx d ++ txM rest) ++ ")" := by
  rw [← tS_list (nm ++ "(" ++ tS (tx d ++ txM rest) ++ ")"), str_app, str_app, str_app, show (tS (tx d ++ txM rest)).cps.toList = tx d ++ txM rest from List.toList_toArray ..]
  unfold tkey
  congr 1
  show nm.cps.toList ++ 40 :: (tx d ++ (txM rest ++ [41])) = nm.cps.toList ++ [40] ++ (tx d ++ txM rest) ++ [41]
  simp
section
variable {P : Program} {w : World} {K : PySem.W.Frag} {mg : Str → Option Value} {base : Heap}
def spOo (K : PySem.W.Frag) : Sp := fun vs H Q _ => ∃ (a : Addr) (bs : List Addr) (ts : List PyData) (kvs : List (List Key × V)), vs = [.ref a] ∧ H a = some (.lst (bs.map V.ref)) ∧ IsKeys H kvs bs ∧ Tab ts kvs ∧ formedAll ts = true ∧ ts.length ≤ 100000 ∧ bs.length = ts.length ∧ (ts.map szI).sum ≤ 100000 ∧ (∀ t, t ∈ ts → (tx t).length ≤ 1000000) ∧ Func (rowsAll ts) ∧
  ∀ p ns L H', Same H H' → H' p = some (.lst (numV ns)) → AtAll ts ns L → Onc ts L → Q (.ref p) H'
theorem ok_oo (T : Tx K mg) : FnOk P w K mg base CX0 2 T.aorder_of T.dorder_of ["rows"] (spOo K) := by
  have nd := sc_order_of.nd
  have GZ := ok_sz (P := P) (w := w) (base := base) T
  obtain ⟨tk, hM⟩ := T.c_MANY_PARTS
  refine T.forder_of.ok sc_order_of (fun vs H Q E h => ?_) (fun cdv A outer s H vs Q E hr h => ?_)
  · obtain ⟨a, bs, ts, kvs, rfl, _⟩ := h
    rfl
  obtain ⟨a, bs, ts, kvs, rfl, ha, ik, tab, ft, lt0, lb, sm, ltx, F, q⟩ := h
  have hu := hu_of hr
  refine ⟨_, (pss_cons (ps_if (pt_cmpR op_gt (pe_callB (cr_sum (by rfl)) (by rfl) T.b_sum (by decide +kernel) (pa_cons (pe_call GZ (hr.mono (by omega)) (by rfl) T.gsizes_of T.fsizes_of.kp T.nsizes_of .nil pass0 (pa_cons (pv 0) pa_nil)) pa_nil)) (pe_glob (v := .int 100000) (by rfl) hM ⟨_, rfl⟩) (nomark _)) pss_false pss_nil)
      (pss_cons (ps_set (i := 1) nd rfl (.inr rfl) (pe_lst pa_nil))
      (pss_cons (ps_for PassesOwn.never rfl (pi_list (pv 0)) (pg_name (i := 2) nd rfl (.inl rfl)) (pss_cons (ps_set (i := 3) nd rfl (.inl rfl) (pe_bm PySem.F.plainAttrs_str PySem.F.slot_str_join PySem.F.type_str_join mt_join pe_str (pa_cons (pe_lc (own := [("number", 5)]) (g := (gName 5)) (tt := tYes) (by rfl) nd (pi_tup (pe_slice sl_tupA (pv 2) (po_some pe_int) po_none)) (blkOk_by (own := [("number", 5)]) (N := N_order_of) (sc := defScope s_order_of) (by decide +kernel)) (fun _ _ _ _ _ => pg_name (i := 5) nd rfl (.inl rfl)) (fun _ _ _ _ _ => pts_nil) (fun _ _ _ _ _ => (pe_ix (r := rIxL K) ix_list (pv 1) (pv 5) (fun _ _ => rfl)))) pa_nil)))
      (pss_one (ps_expr (pe_bm PySem.F.plainAttrs_list PySem.F.slot_list_append PySem.F.type_list_append mt_append (pv 1) (pa_cons (pe_ifExp (pt_truth (pv 3) (by intro _; rfl)) (pe_joined (.cons (pe_fmt (pe_ix ix_tup (pv 2) pe_int (fun _ _ => rfl))) (.cons pe_str (.cons (pe_fmt (pv 3)) (.cons pe_str .nil))))) (pe_ix ix_tup (pv 2) pe_int (fun _ _ => rfl))) pa_nil))))))
      (pss_cons (ps_set (i := 4) nd rfl (.inr rfl) (pe_dc (own := [("number", 5), ("text", 6)]) (g := (gTup K 2 (gCons (gName 5) (gCons (gName 6) gNil)))) (tt := tYes) (by rfl) nd (pi_enum (by rfl) T.b_enumerate (pa_cons (pv 1) pa_nil)) (blkOk_by (own := [("number", 5), ("text", 6)]) (N := N_order_of) (sc := defScope s_order_of) (by decide +kernel)) (fun _ _ _ _ _ => pg_tup rfl (pgs_cons (pg_name (i := 5) nd rfl (.inl rfl)) (pgs_cons (pg_name (i := 6) nd rfl (.inl rfl)) pgs_nil))) (fun _ _ _ _ _ => pts_nil) (fun _ _ _ _ _ => pv 6) (fun _ _ _ _ _ => pv 5)))
      (pss_one (ps_ret (pe_lc (own := [("text", 6)]) (g := (gName 6)) (tt := tYes) (by rfl) nd (pi_list (pe_callB (cr_sortedKS (by rfl) (by have := room200 hr; show (A.deeper _).units + 64 < cLine; omega)) (by rfl) T.b_sorted (by decide +kernel) (pa_cons (pv 4) pa_nil))) (blkOk_by (own := [("text", 6)]) (N := N_order_of) (sc := defScope s_order_of) (by decide +kernel)) (fun _ _ _ _ _ => pg_name (i := 6) nd rfl (.inl rfl)) (fun _ _ _ _ _ => pts_nil) (fun _ _ _ _ _ => (pe_dget hu (pv 4) (pv 6) (fun _ _ => rfl)))))))))), ?_⟩
  refine ⟨_, rfl, a, bs, ts, kvs, rfl, ha, ik, tab, ft, lt0, lb, fun p H1 s1 ep => ?_⟩
  refine ⟨p, ts.map szI, rfl, SqL.of ep, _, _, rfl, rfl, _, rfl, ?_⟩
  rw [decide_eq_false (by omega)]
  refine iteF ?_
  refine ⟨Nat.zero_le _, fun f nf => ?_⟩
  have s2 := s1.trans (same_put (o := .lst []) nf)
  have nfH := s1.free nf
  refine ⟨_, rfl, a, rfl, ⟨_, SqL.of (s2 _ _ ha)⟩, for_list (K := K) (a := a) (xs := bs.map V.ref) (fun i σ G => Same H G ∧ ∃ y2 y3, σ = [some (.ref a), some (.ref f), y2, y3, none, none, none] ∧ G f = some (.lst (((ts.take i).map tkey).map V.str))) ⟨s2, none, none, rfl, upd_same⟩ (fun i σ G _ h => SqL.of (h.1 _ _ ha)) ?_ ?_⟩
  · rintro i y σ G hi ⟨sG, y2, y3, rfl, ef⟩
    rw [List.getElem?_map] at hi
    obtain ⟨b, hb, rfl⟩ := Option.map_eq_some_iff.mp hi
    have lti : i < ts.length := by
      rw [← lb]
      exact (List.getElem?_eq_some_iff.mp hb).1
    have gd := List.getElem?_eq_getElem lti
    obtain ⟨pr, hp, hbk⟩ := isKeys_get ik hb
    obtain ⟨key, hkey, x, es, is, et, ek, at_⟩ := tab.ord i _ gd
    rw [hp] at hkey
    have e1 : pr.1 = key := by cases hkey; rfl
    rw [e1, ek] at hbk
    have hbG := sG _ _ hbk
    have fi := formedAll_get ft gd
    have lti2 := ltx _ (List.getElem_mem lti)
    rw [et] at fi lti2
    obtain ⟨x', es', ee, l3, hnm, hfa⟩ := formed_shape fi
    simp only [PyData.tuple.injEq, List.cons.injEq, PyData.str.injEq] at ee
    obtain ⟨rfl, rfl⟩ := ee
    have hn8 : 1 ≤ x.length ∧ x.length ≤ 8 := by
      simp only [isNm, Bool.and_eq_true, decide_eq_true_eq] at hnm
      exact hnm.1
    have dxr : Dx K G (.ref b) (.tuple (.str x :: (numK is).map keyD)) := .tup hbG (.cons (.str x) (dx_keys _))
    refine ⟨rfl, _, rfl, 1, rfl, ?_⟩
    dsimp only [tNoPart]
    refine sl_from (S := []) (i := 1) (dxr.up offs_nil) olds_nil fun y H2 s2' dy => ?_
    have dy := dy.up OffS.all
    rw [List.drop_one, List.tail_cons] at dy
    cases dy with
    | @tup cc us _ hc hus =>
    have eu := dx_nums hus
    subst eu
    refine ⟨cc, rfl, ⟨_, SqT.of hc⟩, fun D nD => ?_⟩
    have lie := at_.len
    have ef2 := s2' _ _ ef
    refine lc_tup (K := K) (a := cc) (xs := numV is) (fun j H3 => Same H2 H3 ∧ H3 D = some (.lst (((es.take j).map tkey).map V.str))) ⟨same_put nD, upd_same⟩ (fun j H3 _ h => SqT.of (h.1 _ _ hc)) ?_ ?_
    · rintro j y H3 hj ⟨s3, eD⟩
      rw [numV, List.getElem?_map] at hj
      obtain ⟨n, hn, rfl⟩ := Option.map_eq_some_iff.mp hj
      obtain ⟨e, he, hte⟩ := at_num at_ hn
      have ltj : j < es.length := (List.getElem?_eq_some_iff.mp he).1
      have e3 : (((ts.take i).map tkey).map V.str)[n]? = some (.str (tkey e)) := by
        rw [List.getElem?_map, List.getElem?_map, hte]
        rfl
      refine ⟨rfl, (iteT (B := False) ?_ : if true = true then _ else False)⟩
      refine ⟨_, rfl, _, rfl, f, _, (n : Int), .str (tkey e), rfl, rfl, SqL.of (s3 _ _ ef2), atI_nat e3, _, eD, by rw [List.length_map, List.length_map, List.length_take]; exact small1000 (by omega), fun k o hk => ?_, ?_⟩
      · rw [upd_ne (ne_of_none hk nD)]
        exact s3 _ _ hk
      · rw [upd_same, List.take_add_one, he, Option.toList_some, List.map_append, List.map_append]
        rfl
    rintro H3 ⟨s3, eD⟩
    have ln : (numV is).length = es.length := by rw [numV, List.length_map, lie]
    rw [ln, List.take_length] at eD
    have eb : H3 b = some (.tup ((Sum.inr x :: numK is).map kV)) := s3 _ _ (s2' _ _ hbG)
    have ef3 := s3 _ _ ef2
    have fin : ∀ (G4 : Hp) y2 y3, Same H3 G4 → Same H (upd G4 f (.lst (((ts.take i).map tkey).map V.str ++ [.str (tkey ts[i])]))) ∧ ∃ z2 z3, ([some (.ref a), some (.ref f), y2, y3, none, none, none] : L2.St) = [some (.ref a), some (.ref f), z2, z3, none, none, none] ∧ (upd G4 f (.lst (((ts.take i).map tkey).map V.str ++ [.str (tkey ts[i])]))) f = some (.lst (((ts.take (i + 1)).map tkey).map V.str)) := fun G4 y2 y3 s4 => by
      refine ⟨fun z o hz => ?_, _, _, rfl, ?_⟩
      · rw [upd_ne (ne_of_none hz nfH)]
        exact s4 _ _ (s3 _ _ (s2' _ _ (sG _ _ hz)))
      · rw [upd_same, List.take_add_one, gd, Option.toList_some, List.map_append, List.map_append]
        rfl
    have lf : (((ts.take i).map tkey).map V.str).length < sizeLine := by
      rw [List.length_map, List.length_map, List.length_take, sizeLine_eq]
      omega
    have sme := txM_sum es
    have lMA := txA_len es
    have lxA : (txA es).length ≤ 1000000 := by
      have e : tx (.tuple (.str x :: es)) = x.cps.toList ++ txA es := by simp [tx, nmC]
      rw [e, List.length_append] at lti2
      omega
    refine ⟨",", D, es.map tkey, rfl, rfl, .inl (SqL.of eD), ?_, ?_⟩
    · rw [List.length_map]
      show _ + es.length * 1 ≤ _
      rw [Nat.mul_one]
      exact Nat.le_trans (Nat.le_of_eq sme) (Nat.le_trans (Nat.le_trans lMA lxA) (by decide))
    cases es with
    | nil =>
      refine ⟨_, rfl, .inl ⟨rfl, _, SqL.of ef3⟩, _, rfl, false, ⟨Nat.zero_le _, by decide⟩, ?_⟩
      refine iteF ⟨_, rfl, b, _, 0, .str x, rfl, rfl, SqT.of eb, atI_nat (j := 0) rfl, f, _, _, rfl, rfl, ef3, lf, ?_⟩
      have := fin H3 (some (.ref b)) (some (.str (Txt.join "," (([] : List PyData).map tkey)))) (Same.refl H3)
      rw [et, tx_none] at this
      exact this
    | cons d rest =>
      rw [join_tx]
      have lj : (tS (tx d ++ txM rest)).length = (tx d ++ txM rest).length := tS_len _
      have eM : (tx d ++ txM rest).length + 1 = (txM (d :: rest)).length := by
        rw [txM, List.length_cons]
      have pos : 0 < (tx d ++ txM rest).length := by
        rw [formedAll, Bool.and_eq_true] at hfa
        obtain ⟨z, zs, rfl, _, hz, _⟩ := formed_shape hfa.1
        have h1 : 1 ≤ z.length := by
          simp only [isNm, Bool.and_eq_true, decide_eq_true_eq] at hz
          exact hz.1.1
        have e : tx (.tuple (.str z :: zs)) = z.cps.toList ++ txA zs := by simp [tx, nmC]
        rw [List.length_append, e, List.length_append, Array.length_toList]
        have : z.length = z.cps.size := rfl
        omega
      have big : ∀ n : Nat, n ≤ 1000100 → n ≤ sizeLine := fun n h => Nat.le_trans h (by decide)
      refine ⟨_, rfl, .inl ⟨rfl, _, SqL.of ef3⟩, _, rfl, true, ⟨big _ (by rw [lj]; omega), ?_⟩, ?_⟩
      · rw [lj]
        simp only [bne_iff_ne, ne_eq, Bool.true_eq]
        omega
      refine iteT ⟨_, rfl, b, _, 0, .str x, rfl, rfl, SqT.of eb, atI_nat (j := 0) rfl, .inl ⟨x, rfl, big _ (by omega), x, rfl, big _ (by rw [emp_app]; omega), "(", rfl, big _ (by rw [emp_app, len_app]; show x.length + 1 ≤ _; omega), _, rfl, .inl ⟨_, rfl, big _ (by rw [lj]; omega), _, rfl, big _ (by rw [emp_app, len_app, len_app, lj]; show x.length + 1 + _ ≤ _; omega), ")", rfl, big _ (by rw [emp_app, len_app, len_app, len_app, lj]; show x.length + 1 + _ + 1 ≤ _; omega), f, _, _, rfl, rfl, ef3, lf, ?_⟩⟩⟩
      have := fin H3 (some (.ref b)) (some (.str (tS (tx d ++ txM rest)))) (Same.refl H3)
      rw [et, tx_some] at this
      rw [emp_app]
      exact this
  rintro σ G ⟨sG, y2, y3, rfl, ef⟩
  rw [List.length_map, lb, List.take_length] at ef
  have fm : ∀ d, d ∈ ts → formedD d = true := fun d hd => by
    obtain ⟨j, hj⟩ := List.getElem?_of_mem hd
    exact formedAll_get ft hj
  refine ⟨_, rfl, f, _, rfl, SqL.of ef, fun D nD => ?_⟩
  refine dc_enum (K := K) (a := f) (xs := (ts.map tkey).map V.str) (fun i G2 => Same G G2 ∧ ∃ kvs, G2 D = some (.dK kvs) ∧ (kvs.map Prod.fst).Nodup ∧ (∀ p, p ∈ kvs → ∃ (j : Nat) (t : PyData), ts[j]? = some t ∧ p = ((.inr (tkey t) : Key), V.int (j : Int))) ∧ (∀ (j : Nat) t, j < i → ts[j]? = some t → (.inr (tkey t) : Key) ∈ kvs.map Prod.fst) ∧ kvs.length ≤ i) ⟨same_put nD, [], upd_same, List.nodup_nil, (fun p hp => nomatch hp), (fun j t h => absurd h (Nat.not_lt_zero _)), Nat.le_refl _⟩ (fun i G2 _ h => SqL.of (h.1 _ _ ef)) ?_ ?_
  · rintro i y T G2 hi nT ⟨sG2, kvs2, eD, ndk, hat, hall, lk⟩
    rw [List.getElem?_map, List.getElem?_map] at hi
    obtain ⟨z, hz, rfl⟩ := Option.map_eq_some_iff.mp hi
    obtain ⟨t, ht, rfl⟩ := Option.map_eq_some_iff.mp hz
    have lti : i < ts.length := (List.getElem?_eq_some_iff.mp ht).1
    have sT := same_put (o := .tup [.int ((i : Nat) : Int), .str (tkey t)]) nT
    have eDT := sT _ _ eD
    have eT : (upd G2 T (.tup [.int ((i : Nat) : Int), .str (tkey t)])) T = some (.tup [.int ((i : Nat) : Int), .str (tkey t)]) := upd_same
    generalize upd G2 T (.tup [.int ((i : Nat) : Int), .str (tkey t)]) = G3 at sT eDT eT ⊢
    refine ⟨T, _, rfl, SqT.of eT, rfl, _, _, rfl, _, _, rfl, rfl, rfl, (iteT (B := False) ?_ : if true = true then _ else False)⟩
    refine ⟨_, rfl, _, rfl, kvs2, .inr (tkey t), rfl, eDT, by rw [sizeLine_eq]; omega, fun b o hb => ?_, _, upd_same, nodup_put ndk, fun p hp => ?_, fun j u hj hu => ?_, ?_⟩
    · rw [upd_ne (ne_of_none hb nD)]
      exact sT _ _ (sG2 _ _ hb)
    · rcases mem_put hp with rfl | ⟨hp, _⟩
      · exact ⟨i, t, ht, rfl⟩
      · exact hat p hp
    · rw [mem_fst_put]
      rcases Nat.lt_or_ge j i with h | h
      · exact .inl (hall j u h hu)
      · have : j = i := by omega
        subst this
        rw [ht] at hu
        cases hu
        exact .inr rfl
    · have := length_putK kvs2 (.inr (tkey t) : Key) (V.int ((i : Nat) : Int))
      omega
  rintro G2 ⟨sG2, kvs2, eD, ndk, hat, hall, lk⟩
  rw [List.length_map, List.length_map] at lk hall
  have key : ∀ ks : List Key, (∀ k, k ∈ ks → ∃ z : Str, k = .inr z) → ∃ l : List Str, ks = l.map Sum.inr := fun ks => by
    induction ks with
    | nil => intro _; exact ⟨[], rfl⟩
    | cons k ks ih =>
      intro hk
      obtain ⟨z, e⟩ := hk k List.mem_cons_self
      obtain ⟨l, e2⟩ := ih fun k hk2 => hk k (List.mem_cons_of_mem _ hk2)
      exact ⟨z :: l, by rw [e, e2]; rfl⟩
  obtain ⟨l, el⟩ := key (kvs2.map Prod.fst) fun k hk => by
    obtain ⟨p, hp, rfl⟩ := List.mem_map.mp hk
    obtain ⟨j, t, _, rfl⟩ := hat p hp
    exact ⟨_, rfl⟩
  have ndl : l.Nodup := by
    have := ndk
    rw [el, List.Nodup, List.pairwise_map] at this
    exact this.imp fun hne e => hne (by rw [e])
  have ml : ∀ z, z ∈ l ↔ ∃ d, d ∈ ts ∧ tkey d = z := fun z => by
    constructor
    · intro hz
      have : (.inr z : Key) ∈ kvs2.map Prod.fst := by rw [el]; exact List.mem_map.mpr ⟨z, hz, rfl⟩
      obtain ⟨p, hp, e⟩ := List.mem_map.mp this
      obtain ⟨j, t, ht, rfl⟩ := hat p hp
      exact ⟨t, List.mem_of_getElem? ht, Sum.inr.inj e⟩
    · rintro ⟨d, m, rfl⟩
      obtain ⟨j, hj⟩ := List.getElem?_of_mem m
      have := hall j d (List.getElem?_eq_some_iff.mp hj).1 hj
      rw [el] at this
      obtain ⟨y, hy, e⟩ := List.mem_map.mp this
      rw [← Sum.inr.inj e]
      exact hy
  refine ⟨_, rfl, D, kvs2, l, rfl, eD, el, fun p6 np6 => ?_⟩
  have s6 := same_put (o := .lst ((srtS l).map V.str)) np6
  have e6 : (upd G2 p6 (.lst ((srtS l).map V.str))) p6 = some (.lst ((srtS l).map V.str)) := upd_same
  refine ⟨p6, rfl, ⟨_, SqL.of e6⟩, fun D2 nD2 => ?_⟩
  refine lc_list (K := K) (a := p6) (xs := (srtS l).map V.str) (fun i G3 => Same (upd G2 p6 (.lst ((srtS l).map V.str))) G3 ∧ ∃ ns L, G3 D2 = some (.lst (numV ns)) ∧ AtAll ts ns L ∧ L.map tkey = (srtS l).take i ∧ ∀ d, d ∈ L → d ∈ ts) ⟨same_put nD2, [], [], upd_same, True.intro, by simp, fun d hd => nomatch hd⟩ (fun i G3 _ h => SqL.of (h.1 _ _ e6)) ?_ ?_
  · rintro i y G3 hi ⟨s7, ns, L, eD2, at_, em, sub⟩
    rw [List.getElem?_map] at hi
    obtain ⟨z, hz, rfl⟩ := Option.map_eq_some_iff.mp hi
    have mz : z ∈ l := (srtS_perm l).mem_iff.mp (List.mem_of_getElem? hz)
    have mk : (.inr z : Key) ∈ kvs2.map Prod.fst := by rw [el]; exact List.mem_map.mpr ⟨z, mz, rfl⟩
    obtain ⟨p0, hp0, e0⟩ := List.mem_map.mp mk
    obtain ⟨j, t, ht, rfl⟩ := hat p0 hp0
    have ez : tkey t = z := Sum.inr.inj e0
    subst ez
    have hval := val_of_mem ndk hp0
    have sA := s6.trans s7
    have ll : l.length = kvs2.length := by
      have e3 := congrArg List.length el
      rw [List.length_map, List.length_map] at e3
      exact e3.symm
    have lw : ns.length ≤ 100000 := by
      have e := congrArg List.length em
      rw [List.length_map, List.length_take] at e
      have e2 := (srtS_perm l).length_eq
      have := at_.len
      omega
    refine ⟨rfl, (iteT (B := False) ?_ : if true = true then _ else False)⟩
    refine ⟨_, rfl, _, rfl, D, .int (j : Int), rfl, ?_, numV ns, eD2, by rw [numV, List.length_map, sizeLine_eq]; omega, fun b o hb => ?_, ns ++ [j], L ++ [t], ?_, ?_, ?_, fun e he => ?_⟩
    · rw [← hval]
      exact DGet.k (k := .inr (tkey t)) (sA _ _ eD)
    · rw [upd_ne (ne_of_none hb nD2)]
      exact s7 _ _ hb
    · rw [upd_same, numV_app]
      rfl
    · exact at_.app ⟨ht, True.intro⟩
    · rw [List.map_append, em, List.take_add_one, hz]
      rfl
    · rcases List.mem_append.mp he with he | he
      · exact sub e he
      · rw [List.mem_singleton.mp he]
        exact List.mem_of_getElem? ht
  · rintro G3 ⟨s7, ns, L, eD2, at_, em, sub⟩
    rw [List.length_map, List.take_length] at em
    exact q D2 ns L G3 (sG.trans (sG2.trans (s6.trans s7))) eD2 at_ (onc_of F fm ndl ml em sub)
end
end K11
/-! ascending. -/
namespace K11
open PySem PySem.Spec PyProof.Rows L2 Kx
theorem formed_mem {ds : List PyData} (h : formedAll ds = true) : ∀ d, d ∈ ds → formedD d = true := fun d hd => by
  obtain ⟨j, hj⟩ := List.getElem?_of_mem hd
  exact formedAll_get h hj
theorem all_formed : ∀ {ds : List PyData}, (∀ d, d ∈ ds → formedD d = true) → formedAll ds = true
  | [], _ => rfl
  | d :: ds, h => by rw [formedAll, h d List.mem_cons_self, all_formed fun e he => h e (List.mem_cons_of_mem _ he)]; rfl
theorem at_mem {ts : List PyData} : ∀ {is : List Nat} {es : List PyData} {e : PyData}, AtAll ts is es → e ∈ es → e ∈ ts
  | [], [], _, _, he => by cases he
  | i :: is, d :: es, e, h, he => by
    rcases List.mem_cons.mp he with rfl | he
    · exact List.mem_of_getElem? h.1
    · exact at_mem h.2 he
  | [], _ :: _, _, h, _ => h.elim
  | _ :: _, [], _, h, _ => h.elim
section
variable {P : Program} {w : World} {K : PySem.W.Frag} {mg : Str → Option Value} {base : Heap}
def spAsc (K : PySem.W.Frag) : Sp := fun vs H Q _ => ∃ (a : Addr) (ws : List V) (st : List PyData), vs = [.ref a] ∧ SqL K H a ws ∧ DxAll K H ws st ∧ formedAll st = true ∧ (preAll st).length ≤ 100000 ∧ formedAll (preAll st) = true ∧ (∀ t, t ∈ preAll st → (tx t).length ≤ 1000000) ∧ Func (rowsAll (preAll st)) ∧ (∀ ts : List PyData, ts.Nodup → (∀ u, u ∈ ts → u ∈ preAll st) → (ts.map szI).sum ≤ 100000) ∧
  ∀ y L H', Same H H' → Dx K H' y (.tuple L) → Onc (preAll st) L → Q y H'
theorem ok_asc (T : Tx K mg) : FnOk P w K mg base CX0 3 T.aascending T.dascending ["terms"] (spAsc K) := by
  have nd := sc_ascending.nd
  have GP := ok_pre (P := P) (w := w) (base := base) T
  have GN := ok_rows (P := P) (w := w) (base := base) T
  have GO := ok_oo (P := P) (w := w) (base := base) T
  refine T.fascending.ok sc_ascending (fun vs H Q E h => ?_) (fun cdv A outer s H vs Q E hr h => ?_)
  · obtain ⟨a, ws, st, rfl, _⟩ := h
    rfl
  obtain ⟨a, ws, st, rfl, ha, dx, fs, lp, fp, ltx, F, ssum, q⟩ := h
  have hu := hu_of hr
  refine ⟨_, (pss_cons (ps_set (i := 1) nd rfl (.inl rfl) (pe_call GP (hr.mono (by omega)) (by rfl) T.gpreorder T.fpreorder.kp T.npreorder .nil pass0 (pa_cons (pv 0) pa_nil)))
      (pss_cons (ps_asg (pe_call GN (hr.mono (by omega)) (by rfl) T.gnumbered_rows T.fnumbered_rows.kp T.nnumbered_rows .nil pass0 (pa_cons (pv 1) pa_nil)) (pg_tup rfl (pgs_cons (pg_name (i := 2) nd rfl (.inl rfl)) (pgs_cons (pg_name (i := 3) nd rfl (.inl rfl)) pgs_nil))))
      (pss_cons (ps_set (i := 4) nd rfl (.inr rfl) (pe_dc (own := [("number", 5), ("part", 6)]) (g := (gTup K 2 (gCons (gName 5) (gCons (gName 6) gNil)))) (tt := tYes) (by rfl) nd (pi_zip (by rfl) T.b_zip (pa_cons (pv 2) (pa_cons (pv 1) pa_nil))) (blkOk_by (own := [("number", 5), ("part", 6)]) (N := N_ascending) (sc := defScope s_ascending) (by decide +kernel)) (fun _ _ _ _ _ => pg_tup rfl (pgs_cons (pg_name (i := 5) nd rfl (.inl rfl)) (pgs_cons (pg_name (i := 6) nd rfl (.inl rfl)) pgs_nil))) (fun _ _ _ _ _ => pts_nil) (fun _ _ _ _ _ => pv 5) (fun _ _ _ _ _ => pv 6)))
      (pss_one (ps_ret (pe_callTy call_tuple_of (by rfl) T.b_tuple (by decide +kernel) (pa_cons (pe_lc (own := [("number", 5)]) (g := (gName 5)) (tt := tYes) (by rfl) nd (pi_list (pe_call GO (hr.mono (by omega)) (by rfl) T.gorder_of T.forder_of.kp T.norder_of .nil pass0 (pa_cons (pv 3) pa_nil))) (blkOk_by (own := [("number", 5)]) (N := N_ascending) (sc := defScope s_ascending) (by decide +kernel)) (fun _ _ _ _ _ => pg_name (i := 5) nd rfl (.inl rfl)) (fun _ _ _ _ _ => pts_nil) (fun _ _ _ _ _ => (pe_dget hu (pv 4) (pv 5) (fun _ _ => rfl)))) pa_nil))))))), ?_⟩
  refine ⟨_, rfl, a, ws, st, H, rfl, ha, Same.refl H, dx, fs, lp, fun p H1 us s1 np ep du => ?_⟩
  have du := du.up s1
  refine ⟨_, rfl, p, us, st, rfl, SqL.of ep, du, fs, lp, fun q0 nl tl H2 ts is kvs bs s2 eq0 enl at_ tab etl ik sub => ?_⟩
  refine ⟨q0, _, rfl, SqT.of eq0, rfl, _, _, rfl, _, _, rfl, rfl, ?_⟩
  have du2 := du.up s2
  have ep2 := s2 _ _ ep
  have lis := at_.len
  have lus := du2.length
  have lbs : bs.length = ts.length := by
    have h := tab.len
    have : kvs.length = bs.length := Paired.length ik
    omega
  have fts : formedAll ts = true := all_formed fun d hd => formed_mem fp d (sub d hd)
  have lts : ts.length ≤ 100000 := by
    have := nodup_len tab.nodup sub
    omega
  have sup : ∀ u, u ∈ preAll st → u ∈ ts := fun u hu2 => at_mem at_ hu2
  have Fts : Func (rowsAll ts) := F.sub fun r hr2 => by
    obtain ⟨x, hx, hr2⟩ := rows_mem hr2
    exact rows_side (sub x hx) r hr2
  -- found
  refine ⟨_, rfl, _, rfl, nl, p, numV is, us, rfl, SqL.of enl, SqL.of ep2, fun D nD => ?_⟩
  refine dc_zip (K := K) (a := nl) (b := p) (xs := numV is) (ys := us) (by rw [numV, List.length_map, lis, lus]) (fun i G => Same H2 G ∧ ∃ kv, G D = some (.dK kv) ∧ (kv.map Prod.fst).Nodup ∧ (∀ r, r ∈ kv → ∃ (n : Nat) (d : PyData), ts[n]? = some d ∧ r.1 = (.inl (n : Int) : Key) ∧ Dx K H2 r.2 d) ∧ (∀ (j n : Nat), j < i → is[j]? = some n → (.inl (n : Int) : Key) ∈ kv.map Prod.fst) ∧ kv.length ≤ i) ⟨same_put nD, [], upd_same, List.nodup_nil, (fun r hr2 => nomatch hr2), (fun j n h => absurd h (Nat.not_lt_zero _)), Nat.le_refl _⟩ (fun i G _ h => ⟨SqL.of (h.1 _ _ enl), SqL.of (h.1 _ _ ep2)⟩) ?_ ?_
  · rintro i x y Tp G hx hy nT ⟨sG, kv, eD, ndk, hat, hall, lk⟩
    rw [numV, List.getElem?_map] at hx
    obtain ⟨n, hn, rfl⟩ := Option.map_eq_some_iff.mp hx
    obtain ⟨d, hd, hnd⟩ := at_num at_ hn
    obtain ⟨v2, hv2, dv2⟩ := du2.get hd
    rw [hy] at hv2
    cases hv2
    have lti : i < is.length := (List.getElem?_eq_some_iff.mp hn).1
    have sT := same_put (o := .tup [.int (n : Int), y]) nT
    have eDT := sT _ _ eD
    have eT : (upd G Tp (.tup [.int (n : Int), y])) Tp = some (.tup [.int (n : Int), y]) := upd_same
    generalize upd G Tp (.tup [.int (n : Int), y]) = G3 at sT eDT eT ⊢
    refine ⟨Tp, _, rfl, SqT.of eT, rfl, _, _, rfl, _, _, rfl, rfl, rfl, (iteT (B := False) ?_ : if true = true then _ else False)⟩
    refine ⟨_, rfl, _, rfl, kv, .inl (n : Int), rfl, eDT, by rw [sizeLine_eq]; omega, fun b o hb => ?_, _, upd_same, nodup_put ndk, fun r hr2 => ?_, fun j m hj hm => ?_, ?_⟩
    · rw [upd_ne (ne_of_none hb nD)]
      exact sT _ _ (sG _ _ hb)
    · rcases mem_put hr2 with rfl | ⟨hr2, _⟩
      · exact ⟨n, d, hnd, rfl, dv2⟩
      · exact hat r hr2
    · rw [mem_fst_put]
      rcases Nat.lt_or_ge j i with h | h
      · exact .inl (hall j m h hm)
      · have : j = i := by omega
        subst this
        rw [hn] at hm
        cases hm
        exact .inr rfl
    · have := length_putK kv (.inl (n : Int) : Key) y
      omega
  rintro G ⟨sG, kv, eD, ndk, hat, hall, lk⟩
  rw [numV, List.length_map] at hall
  -- order_of
  refine ⟨_, rfl, tl, bs, ts, kvs, rfl, sG _ _ etl, isKeys_up sG ik, tab, fts, lts, lbs, ssum ts tab.nodup sub, fun t ht => ltx t (sub t ht), Fts, fun p6 ns L H6 s6 e6 at6 onc => ?_⟩
  have du6 : ∀ {v d}, Dx K H2 v d → Dx K H6 v d := fun {v d} h => h.up (sG.trans s6)
  have l6 := at6.len
  refine ⟨p6, rfl, ⟨_, SqL.of e6⟩, fun D2 nD2 => ?_⟩
  refine lc_list (K := K) (a := p6) (xs := numV ns) (fun i G3 => Same H6 G3 ∧ ∃ zs, G3 D2 = some (.lst zs) ∧ DxAll K G3 zs (L.take i)) ⟨same_put nD2, [], upd_same, .nil⟩ (fun i G3 _ h => SqL.of (h.1 _ _ e6)) ?_ ?_
  · rintro i y G3 hi ⟨s7, zs, eD2, dz⟩
    rw [numV, List.getElem?_map] at hi
    obtain ⟨n, hn, rfl⟩ := Option.map_eq_some_iff.mp hi
    obtain ⟨d, hd, hnd⟩ := at_num at6 hn
    have mts : d ∈ ts := List.mem_of_getElem? hnd
    obtain ⟨j, hj⟩ := List.getElem?_of_mem (sub d mts)
    obtain ⟨m, hm⟩ : ∃ m, is[j]? = some m := ⟨_, List.getElem?_eq_getElem (by rw [lis]; exact (List.getElem?_eq_some_iff.mp hj).1)⟩
    obtain ⟨d2, hd2, hmd⟩ := at_num at_ hm
    rw [hj] at hd2
    cases hd2
    have emn : m = n := (List.getElem?_inj (h₀ := (List.getElem?_eq_some_iff.mp hmd).1) (h₁ := tab.nodup)).mp (hmd.trans hnd.symm)
    subst emn
    have mk := hall j m (List.getElem?_eq_some_iff.mp hm).1 hm
    obtain ⟨⟨k0, v0⟩, hp0, e0⟩ := List.mem_map.mp mk
    obtain ⟨n2, d3, h3, e1, dd⟩ := hat _ hp0
    dsimp only at e0 e1 dd
    subst e0
    have en : (m : Int) = (n2 : Int) := Sum.inl.inj e1
    have en : m = n2 := by omega
    subst en
    rw [hnd] at h3
    cases h3
    have hval := val_of_mem ndk hp0
    have sA := s6.trans s7
    have lL : L.length ≤ 100000 := by
      have := nodup_len (l := L) (m := ts) (onc.srt.imp fun {x y} lt e => by rw [e] at lt; exact ltR_irrefl _ lt) fun x hx => (onc.mem x).mp hx
      omega
    have fL : ∀ x, x ∈ L → formedD x = true := fun x hx => formed_mem fts x ((onc.mem x).mp hx)
    refine ⟨rfl, (iteT (B := False) ?_ : if true = true then _ else False)⟩
    refine ⟨_, rfl, _, rfl, D, v0, rfl, ?_, zs, eD2, by rw [dz.length, List.length_take, sizeLine_eq]; omega, fun b o hb => ?_, zs ++ [v0], upd_same, ?_⟩
    · rw [← hval]
      exact DGet.k (k := .inl (m : Int)) (sA _ _ eD)
    · rw [upd_ne (ne_of_none hb nD2)]
      exact s7 _ _ hb
    · have tl2 := Tups.lst (ys := zs ++ [v0]) eD2
      rw [List.take_add_one, hd]
      exact DxAll.append (DxAll.ts tl2 _ _ (pure_formedAll _ (all_formed fun x hx => fL x (List.mem_of_mem_take hx))) dz) (.cons (Dx.ts tl2 _ _ (pure_formed _ (fL d (List.mem_of_getElem? hd))) ((du6 dd).up s7)) .nil)
  · rintro G3 ⟨s7, zs, eD2, dz⟩
    have ln : (numV ns).length = L.length := by rw [numV, List.length_map, l6]
    rw [ln, List.take_length] at dz
    refine ⟨D2, zs, rfl, .inl ⟨SqL.of eD2, fun t2 nt2 => ?_⟩⟩
    have st2 := same_put (o := .tup zs) nt2
    exact q _ L _ (s1.trans (s2.trans (sG.trans (s6.trans (s7.trans st2))))) (.tup upd_same (dz.up st2)) ⟨fun z => ⟨fun hz => sub z ((onc.mem z).mp hz), fun hz => (onc.mem z).mpr (sup z hz)⟩, onc.srt⟩
end
end K11
/-! nodes_of. -/
namespace K11
open PySem PySem.Spec PyProof.Rows L2 Kx
/-- what ascending wants of the terms st -/
structure Asc (st : List PyData) : Prop where
  fs : formedAll st = true
  lp : (preAll st).length ≤ 100000
  fp : formedAll (preAll st) = true
  tx : ∀ t, t ∈ preAll st → (tx t).length ≤ 1000000
  fn : Func (rowsAll (preAll st))
  sm : ∀ ts : List PyData, ts.Nodup → (∀ u, u ∈ ts → u ∈ preAll st) → (ts.map szI).sum ≤ 100000
section
variable {P : Program} {w : World} {K : PySem.W.Frag} {mg : Str → Option Value} {base : Heap}
def spNof (K : PySem.W.Frag) : Sp := fun vs H Q _ => ∃ (x : V) (ps : List PyData) (c : PyData), vs = [x] ∧ Fz K H x (.tuple [.tuple ps, c]) ∧ factD (.tuple [.tuple ps, c]) = true ∧ Asc (sidesD (ps ++ endOf c)) ∧
  ∀ y L H', Same H H' → Dx K H' y (.tuple L) → Onc (preAll (sidesD (ps ++ endOf c))) L → Q y H'
theorem ok_nof (T : Tx K mg) : FnOk P w K mg base (L2.CX P w) 7 T.anodes_of T.dnodes_of ["fact"] (spNof K) := by
  have nd := sc_nodes_of.nd
  have GF := ok_ckf (P := P) (w := w) (base := base) T
  have GI := ok_pi (P := P) (w := w) (base := base) T
  have GS := ok_sides (P := P) (w := w) (base := base) T
  have GA := ok_asc (P := P) (w := w) (base := base) T
  refine T.fnodes_of.okX sc_nodes_of (fun vs H Q E h => ?_) (fun cdv A outer s H vs Q E hr h => ?_)
  · obtain ⟨x, ps, c, rfl, _⟩ := h
    rfl
  obtain ⟨x, ps, c, rfl, hx, fx, as, q⟩ := h
  refine ⟨_, (pss_cons (ps_expr (pe_call GF (hr.mono (by omega)) (by rfl) T.gcheck_fact T.fcheck_fact.kp T.ncheck_fact .nil (passes_call (takes_of rfl rfl rfl rfl) (fun _ _ _ _ h => h)) (pa_cons (pv 0) pa_nil)))
      (pss_one (ps_ret (pe_call GA (hr.mono (by omega)) (by rfl) T.gascending T.fascending.kp T.nascending .nil pass0 (pa_cons (pe_call GS (hr.mono (by omega)) (by rfl) T.gsides_of T.fsides_of.kp T.nsides_of .nil pass0 (pa_cons (pe_call GI (hr.mono (by omega)) (by rfl) T.gpairs_in T.fpairs_in.kp T.npairs_in .nil pass0 (pa_cons (pv 0) pa_nil)) pa_nil)) pa_nil))))), ?_⟩
  obtain ⟨f1, f2, f3, f4⟩ := fz_parts hx
  refine ⟨_, rfl, x, _, rfl, hx, fun _ H1 s1 => ?_, fun z => by rw [fx] at z; cases z⟩
  obtain ⟨f, t, us, v, rfl, hf, ht, hus, hv⟩ := dx_fact (hx.up s1).dx
  have cj := fact_couples fx
  simp only [couplesD, Bool.and_eq_true] at cj
  refine ⟨_, rfl, f, t, us, v, ps, c, rfl, hf, ht, hus, hv, by omega, fun p ys H3 s3 np hp dy => ?_⟩
  refine ⟨p, ys, ps ++ endOf c, rfl, SqL.of hp, dy, cj.1, by omega, fun p3 ys3 H4 s4 hp3 dy3 => ?_⟩
  exact ⟨p3, ys3, _, rfl, SqL.of hp3, dy3, as.fs, as.lp, as.fp, as.tx, as.fn, as.sm, fun y L H5 s5 dL onc => q y L H5 (s1.trans (s3.trans (s4.trans s5))) dL onc⟩
end
end K11
/-! The names of a turn. -/
namespace K11
open PySem PySem.Spec PyProof.Rows L2 Kx
/-- the heap without a -/
def Off (a : Addr) (H : Hp) : Hp := fun b => if b = a then none else H b
theorem Off.ne {a b : Addr} {H : Hp} (h : b ≠ a) : Off a H b = H b := if_neg h
theorem Off.of {a b : Addr} {H : Hp} {o : HO} (h : Off a H b = some o) : b ≠ a ∧ H b = some o := by
  unfold Off at h
  by_cases e : b = a
  · rw [if_pos e] at h
    cases h
  · rw [if_neg e] at h
    exact ⟨e, h⟩
theorem Off.same {a : Addr} {H : Hp} : Same (Off a H) H := fun b o h => (Off.of h).2
theorem But.off {a : Addr} {H H' : Hp} (h : But a H H') : Same (Off a H) (Off a H') := fun b o e => by
  obtain ⟨n, e⟩ := Off.of e
  rw [Off.ne n]
  exact h b o e n
abbrev Rw := Addr × NK
def rowO (r : NK) : HO := .tup [.str r.1, .int (r.2 : Int)]
/-- a list of rows at f -/
def RowsIn (H : Hp) (f : Addr) (zs : List Rw) : Prop := H f = some (.lst (zs.map fun z => V.ref z.1)) ∧ ∀ z, z ∈ zs → H z.1 = some (rowO z.2)
theorem RowsIn.up {H H' : Hp} {f : Addr} {zs : List Rw} (h : RowsIn H f zs) (e : Same H H') : RowsIn H' f zs := ⟨e _ _ h.1, fun z hz => e _ _ (h.2 z hz)⟩
theorem RowsIn.snoc {H : Hp} {f q : Addr} {zs : List Rw} {r : NK} (h : RowsIn H f zs) (n : H q = none) : RowsIn (upd (upd H q (rowO r)) f (.lst ((zs.map fun z => V.ref z.1) ++ [V.ref q]))) f (zs ++ [(q, r)]) := by
  have nf : q ≠ f := fun e => by
    rw [e, h.1] at n
    cases n
  refine ⟨by rw [upd_same, List.map_append]; rfl, fun z hz => ?_⟩
  rcases List.mem_append.mp hz with hz | hz
  · have := h.2 z hz
    rw [upd_ne (ne_of this h.1 (fun e => nomatch e)), upd_ne (ne_of_none this n)]
    exact this
  · rw [List.mem_singleton.mp hz, upd_ne nf, upd_same]
theorem RowsIn.len {zs : List Rw} : (zs.map fun z => V.ref z.1).length = zs.length := List.length_map ..
theorem Dice.ne {H : Hp} {a b : Addr} {n : Nat} (d : Dice H a n) (h : H b = none) : b ≠ a := fun e => by
  obtain ⟨_, _, _, z, _⟩ := d
  rw [e, z] at h
  cases h
theorem Dice.put {H : Hp} {a b : Addr} {n : Nat} {o : HO} (d : Dice H a n) (h : b ≠ a) : Dice (upd H b o) a n := d.same (upd_ne h.symm)
theorem But.free {a b : Addr} {H H' : Hp} (x : But a H H') (n : b ≠ a) (h : H' b = none) : H b = none := by
  cases e : H b with
  | none => rfl
  | some o =>
    rw [x b o e n] at h
    cases h
theorem But.put {a b : Addr} {H H' : Hp} {o : HO} (x : But a H H') (h : H b = none) : But a H (L2.upd H' b o) := fun c u hc nc => by
  rw [upd_ne (ne_of_none hc h)]
  exact x c u hc nc
theorem RowsIn.but {H H' : Hp} {a f : Addr} {n : Nat} {zs : List Rw} (h : RowsIn H f zs) (x : But a H H') (d : Dice H a n) (nf : f ≠ a) : RowsIn H' f zs := by
  obtain ⟨_, _, _, hz, _⟩ := d
  exact ⟨x _ _ h.1 nf, fun z m => x _ _ (h.2 z m) (ne_of (h.2 z m) hz (fun e => nomatch e))⟩
def pools : List (List Str) := [["a", "b", "c", "d"], ["a", "ab", "b", "ba"], ["x", "xin", "xout", "y"]]
def funcs : List Str := ["f", "g", "gg", "zzzzzzzz"]
def allN : List Str := pools.flatten ++ funcs
/-- good rows: names, few places, each name with its places; one without places -/
structure Good (l : List NK) : Prop where
  nm : ∀ r, r ∈ l → isNm r.1 = true ∧ r.2 ≤ 3
  fn : Func l
  cell : ∃ r, r ∈ l ∧ r.2 = 0
  few : l.length ≤ 20
  nd : (l.map Prod.fst).Nodup
  inn : ∀ r, r ∈ l → r.1 ∈ allN
  two : ∃ x y : Str, x ≠ y ∧ (x, 0) ∈ l ∧ (y, 0) ∈ l
theorem Good.perm {l m : List NK} (g : Good l) (h : l.Perm m) : Good m := by
  obtain ⟨x, y, n, m1, m2⟩ := g.two
  refine ⟨fun r hr => g.nm r (h.mem_iff.mpr hr), (Func.congr fun p => h.mem_iff).mp g.fn, ?_, by rw [← h.length_eq]; exact g.few, (h.map Prod.fst).nodup_iff.mp g.nd, fun r hr => g.inn r (h.mem_iff.mpr hr), x, y, n, h.mem_iff.mp m1, h.mem_iff.mp m2⟩
  obtain ⟨r, hr, e⟩ := g.cell
  exact ⟨r, h.mem_iff.mp hr, e⟩
theorem pools_ok : ∀ l, l ∈ pools → l.length = 4 ∧ l.Nodup ∧ ∀ x, x ∈ l → isNm x = true ∧ x ∉ funcs ∧ x ∈ allN := by decide +kernel
theorem funcs_ok : funcs.Nodup ∧ ∀ x, x ∈ funcs → isNm x = true ∧ x ∈ allN := by decide +kernel
theorem cut_upto {xs : List V} {i : Int} (h : 0 ≤ i) : cutV xs none (some i) = xs.take i.toNat := by
  obtain ⟨n, rfl⟩ := Int.eq_ofNat_of_zero_le h
  unfold cutV
  rw [show HT.sIx xs.length xs.length (some (n : Int)) = min n xs.length from HT.sIx_nat xs.length xs.length n, show HT.sIx xs.length 0 none = 0 from rfl, List.drop_zero, Nat.sub_zero, Int.toNat_natCast]
  by_cases e : n ≤ xs.length
  · rw [Nat.min_eq_left e]
  · rw [Nat.min_eq_right (by omega), List.take_length, List.take_of_length_le (by omega)]
theorem perm_back {α β : Type} {f : α → β} {l ys : List β} (h : l.Perm ys) : ∀ zs : List α, l = zs.map f → ∃ ws : List α, ws.Perm zs ∧ ys = ws.map f := by
  induction h with
  | nil =>
    intro zs e
    cases zs with
    | nil => exact ⟨[], List.Perm.refl _, rfl⟩
    | cons z zs => cases e
  | cons x _ ih =>
    intro zs e
    cases zs with
    | nil => cases e
    | cons z zs =>
      rw [List.map_cons] at e
      injection e with e1 e2
      obtain ⟨ws, p, q⟩ := ih zs e2
      exact ⟨z :: ws, p.cons z, by rw [List.map_cons, q, e1]⟩
  | swap x y l =>
    intro zs e
    cases zs with
    | nil => cases e
    | cons z zs =>
      cases zs with
      | nil => cases e
      | cons z2 zs =>
        rw [List.map_cons, List.map_cons] at e
        injection e with e1 e2
        injection e2 with e2 e3
        exact ⟨z2 :: z :: zs, List.Perm.swap _ _ _, by rw [List.map_cons, List.map_cons, e1, e2, e3]⟩
  | trans _ _ ih1 ih2 =>
    intro zs e
    obtain ⟨ws, p, q⟩ := ih1 zs e
    obtain ⟨vs, p2, q2⟩ := ih2 ws q
    exact ⟨vs, p2.trans p, q2⟩
theorem nodup_inj {α β : Type} {f : α → β} : ∀ {l : List α} {x y : α}, (l.map f).Nodup → x ∈ l → y ∈ l → f x = f y → x = y
  | [], _, _, _, h, _, _ => nomatch h
  | z :: l, x, y, nd, hx, hy, e => by
    rw [List.map_cons, List.nodup_cons] at nd
    rcases List.mem_cons.mp hx with h1 | h1
    · rcases List.mem_cons.mp hy with h2 | h2
      · rw [h1, h2]
      · exact absurd (List.mem_map.mpr ⟨y, h2, by rw [← e, h1]⟩) nd.1
    · rcases List.mem_cons.mp hy with h2 | h2
      · exact absurd (List.mem_map.mpr ⟨x, h1, by rw [e, h2]⟩) nd.1
      · exact nodup_inj nd.2 h1 h2 e
/-- a row as an item to be sorted -/
def rowI (z : Rw) : V × PyData := (V.ref z.1, PyData.tuple [.str z.2.1, .int (z.2.2 : Int)])
section
variable {P : Program} {w : World} {K : PySem.W.Frag} {mg : Str → Option Value} {base : Heap}
def spNames (K : PySem.W.Frag) : Sp := fun vs H Q _ => ∃ (a : Addr) (n : Nat), vs = [.ref a, .int 2] ∧ Dice H a n ∧ n + 100 < cap ∧
  ∀ (p : Addr) (zs : List Rw) H', But a H H' → Dice H' a (n + 100) → H p = none → p ≠ a → RowsIn H' p zs → Good (zs.map Prod.snd) → Q (.ref p) H'
theorem ok_names (T : Tx K mg) : FnOk P w K mg base CX0 3 T.a_law_names T.d_law_names ["dice", "few"] (spNames K) := by
  have nd := sc__law_names.nd
  have G1 := ok_roll (P := P) (w := w) (base := base) T
  have G2 := ok_pick (P := P) (w := w) (base := base) T
  have G3 := ok_mixed (P := P) (w := w) (base := base) T
  refine T.f_law_names.ok sc__law_names (fun vs H Q E h => ?_) (fun cdv A outer s H vs Q E hr h => ?_)
  · obtain ⟨a, n, rfl, _⟩ := h
    rfl
  · obtain ⟨a, n, rfl, hd, hn, q⟩ := h
    refine ⟨_, (pss_cons (ps_set (i := 2) nd rfl (.inl rfl) (pe_lst (pa_cons (pe_lst (pa_cons pe_str (pa_cons pe_str (pa_cons pe_str (pa_cons pe_str pa_nil))))) (pa_cons (pe_lst (pa_cons pe_str (pa_cons pe_str (pa_cons pe_str (pa_cons pe_str pa_nil))))) (pa_cons (pe_lst (pa_cons pe_str (pa_cons pe_str (pa_cons pe_str (pa_cons pe_str pa_nil))))) pa_nil)))))
      (C8.pss_cut (ps_set (i := 3) nd rfl (.inl rfl) (pe_call G3 (hr.mono (by omega)) (by rfl) T.g_law_mixed T.f_law_mixed.kp T.n_law_mixed .nil pass0 (pa_cons (pv 0) (pa_cons (pe_call G2 (hr.mono (by omega)) (by rfl) T.g_law_pick T.f_law_pick.kp T.n_law_pick .nil pass0 (pa_cons (pv 0) (pa_cons (pv 2) pa_nil))) pa_nil))))
      (pss_cons (ps_setLc (i := 5) (own := [("name", 4)]) (g := (gName 4)) (tt := tYes) (by rfl) nd rfl rfl (sw_true rfl rfl rfl (by decide +kernel)) (pi_list (pe_slice sl_list (pv 3) po_none (po_some (pe_op op_add pe_int (pe_call G1 (hr.mono (by omega)) (by rfl) T.g_law_roll T.f_law_roll.kp T.n_law_roll .nil pass0 (pa_cons (pv 0) (pa_cons pe_int pa_nil))))))) (blkOk_by (own := [("name", 4)]) (N := N__law_names) (sc := defScope s__law_names) (by decide +kernel)) (fun _ _ _ _ _ => pg_name (i := 4) nd rfl (.inl rfl)) (fun _ _ _ _ _ => pts_nil) (fun _ _ _ _ _ => (pe_tup (pa_cons (pv 4) (pa_cons pe_int pa_nil)))))
      (pss_cons (ps_for PassesOwn.never rfl (pi_list (pe_slice sl_list (pe_call G3 (hr.mono (by omega)) (by rfl) T.g_law_mixed T.f_law_mixed.kp T.n_law_mixed .nil pass0 (pa_cons (pv 0) (pa_cons (pe_lst (pa_cons pe_str (pa_cons pe_str (pa_cons pe_str (pa_cons pe_str pa_nil))))) pa_nil))) po_none (po_some (pe_op op_add pe_int (pe_call G1 (hr.mono (by omega)) (by rfl) T.g_law_roll T.f_law_roll.kp T.n_law_roll .nil pass0 (pa_cons (pv 0) (pa_cons (pv 1) pa_nil))))))) (pg_name (i := 4) nd rfl (.inl rfl)) (pss_one (ps_expr (pe_bm PySem.F.plainAttrs_list PySem.F.slot_list_append PySem.F.type_list_append mt_append (pv 5) (pa_cons (pe_tup (pa_cons (pv 4) (pa_cons (pe_op op_add pe_int (pe_callB (call_max2 rfl) (by rfl) T.b_max (by decide +kernel) (pa_cons pe_int (pa_cons (pe_op op_sub (pe_call G1 (hr.mono (by omega)) (by rfl) T.g_law_roll T.f_law_roll.kp T.n_law_roll .nil pass0 (pa_cons (pv 0) (pa_cons pe_int pa_nil))) pe_int) pa_nil)))) pa_nil))) pa_nil)))))
      (pss_one (ps_ret (pe_callB (cr_sortedD hr.units) (by rfl) T.b_sorted (by decide +kernel) (pa_cons (pv 5) pa_nil)))))))), ?_⟩
    -- pools
    refine ⟨(by show 4 ≤ sizeLine; decide), fun p1 n1 => ⟨(by show 4 ≤ sizeLine; decide), fun p2 n2 => ⟨(by show 4 ≤ sizeLine; decide), fun p3 n3 => ⟨(by show 3 ≤ sizeLine; decide), fun pl n4 => ?_⟩⟩⟩⟩
    have s1 := same_new (o := .lst [.str "a", .str "b", .str "c", .str "d"]) n1
    have s2 := same_new (o := .lst [.str "a", .str "ab", .str "b", .str "ba"]) n2
    have s3 := same_new (o := .lst [.str "x", .str "xin", .str "xout", .str "y"]) n3
    have s4 := same_new (o := .lst [.ref p1, .ref p2, .ref p3]) n4
    have dH := hd
    obtain ⟨i0, i1, i2, ha, _⟩ := dH
    have hpl : ∀ v, v ∈ [V.ref p1, .ref p2, .ref p3] → ∃ b l, v = .ref b ∧ l ∈ pools ∧ b ≠ a ∧ (upd (upd (upd (upd H p1 (.lst [.str "a", .str "b", .str "c", .str "d"])) p2 (.lst [.str "a", .str "ab", .str "b", .str "ba"])) p3 (.lst [.str "x", .str "xin", .str "xout", .str "y"])) pl (.lst [.ref p1, .ref p2, .ref p3])) b = some (.lst (l.map V.str)) := by
      intro v hv
      have na : ∀ {G : Hp} {b : Addr}, Same H G → G b = none → b ≠ a := fun sm e z => by
        rw [z, sm _ _ ha] at e
        cases e
      rcases List.mem_cons.mp hv with rfl | hv
      · exact ⟨p1, ["a", "b", "c", "d"], rfl, .head _, na (Same.refl H) n1, s4 _ _ (s3 _ _ (s2 _ _ upd_same))⟩
      · rcases List.mem_cons.mp hv with rfl | hv
        · exact ⟨p2, ["a", "ab", "b", "ba"], rfl, .tail _ (.head _), na s1 n2, s4 _ _ (s3 _ _ upd_same)⟩
        · cases List.mem_singleton.mp hv
          exact ⟨p3, ["x", "xin", "xout", "y"], rfl, .tail _ (.tail _ (.head _)), na (s1.trans s2) n3, s4 _ _ upd_same⟩
    have npa : pl ≠ a := fun z => by
      rw [z, s3 _ _ (s2 _ _ (s1 _ _ ha))] at n4
      cases n4
    refine ⟨fun σ' H' => But a H H' ∧ Dice H' a (n + 5) ∧ ∃ (c : Addr) (ys : List Str), σ' = [some (.ref a), some (.int 2), some (.ref pl), some (.ref c), none, none] ∧ c ≠ a ∧ H' c = some (.lst (ys.map V.str)) ∧ ys.length = 4 ∧ ys.Nodup ∧ ∀ x, x ∈ ys → isNm x = true ∧ x ∉ funcs ∧ x ∈ allN, ?_, ?_⟩
    · refine ⟨.ref a, rfl, .ref a, rfl, .ref pl, rfl, a, pl, n, _, rfl, ((((hd.up s1).up s2).up s3).up s4), by omega, .inl (.inl upd_same), npa, Nat.zero_lt_succ _, (by show 3 < 1000000; decide), fun i v H' bt dd hi => ?_⟩
      obtain ⟨b, l, rfl, hl, hb, eb⟩ := hpl v (List.mem_of_getElem? hi)
      obtain ⟨l4, lnd, lp⟩ := pools_ok l hl
      have eb' := bt _ _ eb hb
      refine ⟨a, b, n + 1, l.map V.str, rfl, dd, by rw [List.length_map]; omega, .inl (.inl eb'), hb, by rw [List.length_map]; omega, fun ys c H2 bt2 dd2 pm nc nca ec => ?_⟩
      obtain ⟨ws, pw, rfl⟩ := perm_back pm.symm l rfl
      rw [List.length_map, l4] at dd2
      exact ⟨(But.of (s1.trans (s2.trans (s3.trans s4)))).trans (bt.trans bt2), dd2, c, ws, rfl, nca, ec, by rw [pw.length_eq, l4], pw.nodup_iff.mpr lnd, fun x hx => lp x (pw.mem_iff.mp hx)⟩
    rintro σ1 H1 ⟨bt1, dd1, c, ys, rfl, nca, ec, y4, ynd, hy⟩
    -- the cells
    refine ⟨_, rfl, _, rfl, a, n + 5, 3, rfl, dd1, by omega, by decide, by decide, fun r H2 bt2 dd2 r0 r1 => ⟨2, r, rfl, rfl, _, rfl, c, _, rfl, .inl (.inl (bt2 _ _ ec nca)), fun e ne => ⟨e, rfl, ⟨_, .inl (.inl upd_same)⟩, fun D nD => ?_⟩⟩⟩
    rw [cut_upto (by omega), ← List.map_take] at nD ⊢
    have nea := dd2.ne ne
    have sne := same_new (o := .lst ((ys.take (2 + r).toNat).map V.str)) ne
    have nDa := (dd2.up sne).ne nD
    have nDH := But.free (bt1.trans (bt2.trans (But.of sne))) nDa nD
    have lc : (ys.take (2 + r).toNat).length ≤ 4 ∧ 2 ≤ (ys.take (2 + r).toNat).length := by
      rw [List.length_take]
      omega
    have hc : ∀ x, x ∈ ys.take (2 + r).toNat → isNm x = true ∧ x ∉ funcs ∧ x ∈ allN := fun x hx => hy x (List.mem_of_mem_take hx)
    have cnd : (ys.take (2 + r).toNat).Nodup := List.Nodup.sublist (List.take_sublist _ _) ynd
    generalize ys.take (2 + r).toNat = cs at lc hc cnd nD sne
    refine lc_list (K := K) (a := e) (xs := cs.map V.str) (fun i H3 => But a H H3 ∧ Dice H3 a (n + 6) ∧ H3 e = some (.lst (cs.map V.str)) ∧ ∃ zs : List Rw, RowsIn H3 D zs ∧ zs.map Prod.snd = (cs.take i).map fun x => (x, 0))
      ⟨bt1.trans (bt2.trans (But.of (sne.trans (same_new nD)))), dd2.up (sne.trans (same_new nD)), same_new nD _ _ upd_same, [], ⟨upd_same, fun z hz => (nomatch hz)⟩, by simp⟩ (fun i H3 _ h => .inl (.inl h.2.2.1)) ?_ ?_
    · rintro i y H3 hi ⟨bt3, dd3, ee, zs, ri, em⟩
      rw [List.getElem?_map] at hi
      obtain ⟨x, hx, rfl⟩ := Option.map_eq_some_iff.mp hi
      have lt : i < cs.length := (List.getElem?_eq_some_iff.mp hx).1
      have lz : zs.length = i := by
        have := congrArg List.length em
        simp only [List.length_map, List.length_take] at this
        omega
      refine ⟨rfl, (iteT (B := False) ?_ : if true = true then _ else False)⟩
      refine ⟨_, rfl, (by show 2 ≤ sizeLine; decide), fun q nq => ?_⟩
      have nqD : D ≠ q := ne_of_none ri.1 nq
      have smq := same_new (o := rowO (x, 0)) nq
      have neD : e ≠ D := fun z => by
        rw [z, upd_same] at nD
        cases nD
      refine ⟨zs.map fun z => V.ref z.1, by rw [upd_ne nqD]; exact ri.1, by rw [List.length_map]; exact small1000 (by omega), (bt3.trans (But.of smq)).put nDH, (dd3.up smq).put nDa, ?_, zs ++ [(q, (x, 0))], ri.snoc (r := (x, 0)) nq, ?_⟩
      · rw [upd_ne neD]
        exact smq _ _ ee
      · rw [List.map_append, em, List.take_add_one, hx, List.map_append]
        rfl
    rintro H3 ⟨bt3, dd3, ee, zs, ri, em⟩
    rw [List.length_map, List.take_length] at em
    clear ee sne
    -- the others
    refine ⟨_, rfl, (by show 4 ≤ sizeLine; decide), fun g ng => ⟨a, g, n + 6, funcs.map V.str, rfl, dd3.up (same_new ng), by show n + 6 + 4 < cap; omega, .inl (.inl upd_same), dd3.ne ng, by decide, fun fs p H4 bt4 dd4 pm np npa' ep => ?_⟩⟩
    obtain ⟨ws, pw, rfl⟩ := perm_back pm.symm funcs rfl
    have dd4 : Dice H4 a (n + 10) := dd4
    have ri4 := (ri.up (same_new (o := .lst (funcs.map V.str)) ng)).but bt4 (dd3.up (same_new ng)) nDa
    have bt4 := bt3.trans ((But.of (same_new (o := .lst (funcs.map V.str)) ng)).trans bt4)
    refine ⟨_, rfl, _, rfl, a, n + 10, 2, rfl, dd4, by omega, by decide, by decide, fun r5 H5 bt5 dd5 r50 r51 => ⟨1, r5, rfl, rfl, _, rfl, p, _, rfl, .inl (.inl (bt5 _ _ ep npa')), fun u nu => ⟨u, rfl, ⟨_, .inl (.inl upd_same)⟩, ?_⟩⟩⟩
    rw [cut_upto (by omega), ← List.map_take]
    have nus : u ≠ D := (ne_of_none (ri4.but bt5 dd4 nDa).1 nu).symm
    have smu := same_new (o := .lst ((ws.take (1 + r5).toNat).map V.str)) nu
    have nua := dd5.ne nu
    have lf : (ws.take (1 + r5).toNat).length ≤ 3 := by
      rw [List.length_take]
      omega
    have ndw : (ws.take (1 + r5).toNat).Nodup := List.Nodup.sublist (List.take_sublist _ _) (pw.nodup_iff.mpr funcs_ok.1)
    have hw : ∀ x, x ∈ ws.take (1 + r5).toNat → x ∈ funcs := fun x hx => pw.mem_iff.mp (List.mem_of_mem_take hx)
    have bt6 := bt4.trans (bt5.trans (But.of smu))
    have dd6 := dd5.up smu
    have ri6 := (ri4.but bt5 dd4 nDa).up smu
    generalize ws.take (1 + r5).toNat = us at lf ndw hw bt6 dd6 ri6 ⊢
    clear smu
    have lcz : zs.length = cs.length := by
      have := congrArg List.length em
      simpa only [List.length_map] using this
    refine for_list (K := K) (a := u) (xs := us.map V.str) (fun i σ H7 => But a H H7 ∧ Dice H7 a (n + 11 + i) ∧ H7 u = some (.lst (us.map V.str)) ∧ ∃ (y : Option V) (fr : List Rw), σ = [some (.ref a), some (.int 2), some (.ref pl), some (.ref c), y, some (.ref D)] ∧ RowsIn H7 D (zs ++ fr) ∧ fr.map (fun z => z.2.1) = us.take i ∧ ∀ z, z ∈ fr → z.2.2 ≤ 3)
      ⟨bt6, dd6, upd_same, none, [], rfl, by rw [List.append_nil]; exact ri6, by simp, fun z hz => (nomatch hz)⟩ (fun i σ H3 _ h => .inl (.inl h.2.2.1)) ?_ ?_
    · rintro i y σ H7 hi ⟨bt7, dd7, eu, y0, fr, rfl, ri7, em7, h7⟩
      rw [List.getElem?_map] at hi
      obtain ⟨x, hx, rfl⟩ := Option.map_eq_some_iff.mp hi
      have lt : i < us.length := (List.getElem?_eq_some_iff.mp hx).1
      refine ⟨_, rfl, .inl ⟨rfl, _, .inl (.inl ri7.1)⟩, _, rfl, _, rfl, a, n + 11 + i, 5, rfl, dd7, by omega, by decide, by decide, fun r8 H8 bt8 dd8 r80 r81 => ⟨r8, 2, rfl, rfl, 0, r8 - 2, rfl, 1, _, rfl, rfl, (by show 2 ≤ sizeLine; decide), fun q nq => ?_⟩⟩
      have ri8 := ri7.but bt8 dd7 nDa
      obtain ⟨k, hk, ek⟩ : ∃ k : Nat, k ≤ 3 ∧ (1 + if r8 - 2 > 0 then r8 - 2 else 0 : Int) = k := by
        refine ⟨(1 + if r8 - 2 > 0 then r8 - 2 else 0 : Int).toNat, ?_, ?_⟩ <;> split <;> omega
      dsimp only
      rw [ek]
      have smq := same_new (o := rowO (x, k)) nq
      have eq8 := smq _ _ ri8.1
      have lfr : fr.length ≤ 3 := by
        have := congrArg List.length em7
        simp only [List.length_map, List.length_take] at this
        omega
      refine ⟨D, _, .ref q, rfl, rfl, eq8, by rw [List.length_map, List.length_append]; exact small1000 (by omega), (bt7.trans (bt8.trans (But.of smq))).put nDH, ((dd8.up smq).put nDa).le (by omega), ?_, some (.str x), fr ++ [(q, (x, k))], rfl, ?_, ?_, fun z hz => ?_⟩
      · rw [upd_ne nus]
        exact smq _ _ (bt8 _ _ eu nua)
      · rw [← List.append_assoc]
        exact ri8.snoc (r := (x, k)) nq
      · rw [List.map_append, em7, List.take_add_one, hx]
        rfl
      · rcases List.mem_append.mp hz with hz | hz
        · exact h7 z hz
        · rw [List.mem_singleton.mp hz]
          exact hk
    · rintro σ H7 ⟨bt7, dd7, eu, y0, fr, rfl, ri7, em7, h7⟩
      rw [List.length_map, List.take_length] at em7
      have lfr : fr.length ≤ 3 := by
        have := congrArg List.length em7
        simp only [List.length_map] at this
        omega
      -- sorted
      have eI : ∀ l : List Rw, (l.map rowI).map Prod.fst = l.map fun z => V.ref z.1 := fun l => by rw [List.map_map]; rfl
      have eS : ∀ l : List Rw, (l.map rowI).map Prod.snd = l.map fun z => PyData.tuple [.str z.2.1, .int (z.2.2 : Int)] := fun l => by rw [List.map_map]; rfl
      refine ⟨_, rfl, D, (zs ++ fr).map rowI, rfl, by rw [eI]; exact .inl (.inl ri7.1), fun z hz => ?_, ?_, ?_, by rw [List.length_map, List.length_append]; exact Nat.le_of_lt (small1000 (by omega)), fun z hz => ?_, fun p np => ?_⟩
      · obtain ⟨z, hz2, rfl⟩ := List.mem_map.mp hz
        exact .tup (.inl (.inl (ri7.2 z hz2))) (.cons (.str _) (.cons (.int _) .nil))
      · rw [eS]
        exact PySem.W.AllAlike.of fun b b' => rfl
      · rw [eS]
        exact PySem.W.Sortable.tuples fun b => ⟨_, _, rfl⟩
      · obtain ⟨z, hz2, rfl⟩ := List.mem_map.mp hz
        show PyData.depth (.tuple [.str z.2.1, .int (z.2.2 : Int)]) ≤ 60
        simp [PyData.depth, PyData.depthAll]
      · obtain ⟨ws2, pw2, ew2⟩ := perm_back (List.mergeSort_perm ((zs ++ fr).map rowI) (PySem.W.dataLe false Prod.snd)).symm (zs ++ fr) rfl
        rw [ew2, eI]
        have npa2 := dd7.ne np
        have smp := same_new (o := .lst (ws2.map fun z => V.ref z.1)) np
        refine q p ws2 _ (bt7.trans (But.of smp)) ((dd7.up smp).le ?_) (But.free bt7 npa2 np) npa2 ⟨upd_same, fun z hz => smp _ _ (ri7.2 z (pw2.mem_iff.mp hz))⟩ ?_
        · rw [List.length_map]
          omega
        · refine Good.perm ?_ (pw2.map Prod.snd).symm
          rw [List.map_append, em]
          refine ⟨fun r hr => ?_, ?_, ?_, ?_, ?_, fun r hr => ?_, ?_⟩
          · rcases List.mem_append.mp hr with h | h
            · obtain ⟨x, hx, rfl⟩ := List.mem_map.mp h
              exact ⟨(hc x hx).1, Nat.zero_le _⟩
            · obtain ⟨z, hz, rfl⟩ := List.mem_map.mp h
              refine ⟨(funcs_ok.2 _ (hw _ ?_)).1, h7 z hz⟩
              rw [← em7]
              exact List.mem_map.mpr ⟨z, hz, rfl⟩
          · have inF : ∀ r, r ∈ fr.map Prod.snd → r.1 ∈ funcs := fun r hr => by
              obtain ⟨z, hz, rfl⟩ := List.mem_map.mp hr
              refine hw _ ?_
              rw [← em7]
              exact List.mem_map.mpr ⟨z, hz, rfl⟩
            have inC : ∀ r, r ∈ (cs.map fun x => ((x, 0) : NK)) → r.1 ∉ funcs ∧ r.2 = 0 := fun r hr => by
              obtain ⟨x, hx, rfl⟩ := List.mem_map.mp hr
              exact ⟨(hc x hx).2.1, rfl⟩
            intro r hr t ht e
            rcases List.mem_append.mp hr with h1 | h1
            · rcases List.mem_append.mp ht with h2 | h2
              · rw [(inC r h1).2, (inC t h2).2]
              · have z := (inC r h1).1
                rw [e] at z
                exact absurd (inF t h2) z
            · rcases List.mem_append.mp ht with h2 | h2
              · have z := (inC t h2).1
                rw [← e] at z
                exact absurd (inF r h1) z
              · obtain ⟨x, hx, rfl⟩ := List.mem_map.mp h1
                obtain ⟨y, hy, rfl⟩ := List.mem_map.mp h2
                rw [nodup_inj (f := fun z : Rw => z.2.1) (by rw [em7]; exact ndw) hx hy e]
          · cases cs with
            | nil =>
              simp at lc
            | cons x cs => exact ⟨(x, 0), List.mem_append_left _ (List.mem_map.mpr ⟨x, List.mem_cons_self, rfl⟩), rfl⟩
          · rw [List.length_append, List.length_map, List.length_map]
            omega
          · rw [List.map_append, List.map_map, show (Prod.fst ∘ fun x => ((x, 0) : NK)) = id from rfl, List.map_id, List.map_map, show (Prod.fst ∘ Prod.snd : Rw → Str) = (fun z => z.2.1) from rfl, em7, List.nodup_append]
            exact ⟨cnd, ndw, fun x hx y hy e => (hc x hx).2.1 (e ▸ hw y hy)⟩
          · rcases List.mem_append.mp hr with h | h
            · obtain ⟨x, hx, rfl⟩ := List.mem_map.mp h
              exact (hc x hx).2.2
            · obtain ⟨z, hz, rfl⟩ := List.mem_map.mp h
              refine (funcs_ok.2 _ (hw _ ?_)).2
              rw [← em7]
              exact List.mem_map.mpr ⟨z, hz, rfl⟩
          · match cs, lc, cnd with
            | x :: y :: cs, _, cnd =>
              rw [List.nodup_cons] at cnd
              exact ⟨x, y, fun e => cnd.1 (e ▸ List.mem_cons_self), List.mem_append_left _ (by simp), List.mem_append_left _ (by simp)⟩
            | [_], lc, _ => simp at lc
            | [], lc, _ => simp at lc
end
end K11
/-! A term of the turn, drawn. -/
namespace K11
open PySem PySem.Spec PyProof.Rows L2 Kx
theorem RowsIn.add {H : Hp} {f : Addr} {zs : List Rw} {z : Rw} (h : RowsIn H f zs) (n : H z.1 = some (rowO z.2)) : RowsIn (upd H f (.lst ((zs.map fun z => V.ref z.1) ++ [V.ref z.1]))) f (zs ++ [z]) := by
  refine ⟨by rw [upd_same, List.map_append]; rfl, fun y hy => ?_⟩
  have e : H y.1 = some (rowO y.2) := by
    rcases List.mem_append.mp hy with hy | hy
    · exact h.2 y hy
    · rw [List.mem_singleton.mp hy]
      exact n
  rw [upd_ne (ne_of e h.1 (fun e => nomatch e))]
  exact e
theorem RowsIn.off {H : Hp} {f D : Addr} {zs : List Rw} {xs ys : List V} (h : RowsIn H f zs) (e : H D = some (.lst xs)) (n : D ≠ f) : RowsIn (upd H D (.lst ys)) f zs := by
  refine ⟨by rw [upd_ne n.symm]; exact h.1, fun z hz => ?_⟩
  rw [upd_ne (ne_of (h.2 z hz) e (fun e => nomatch e))]
  exact h.2 z hz
def cost : Nat → Nat
  | 0 => 0
  | n + 1 => 2 + 3 * cost n
/-- a term with names of rs, n levels at most -/
structure Tm (rs : List NK) (n : Nat) (d : PyData) : Prop where
  fm : formedD d = true
  rw : ∀ r, r ∈ rowsD d → r ∈ rs
  dp : d.depth ≤ n
section
variable {K : PySem.W.Frag}
/-- the rows without places, a new list -/
theorem cells_rd {y0 y2 y3 y4 y5 y6 y7 : Option V} {H : Hp} {b : Addr} {zs : List Rw} {Q : VK} (ri : RowsIn H b zs) (gd : Good (zs.map Prod.snd))
    (q : ∀ (D : Addr) (ws : List Rw) (H3 : Hp), Same H H3 → H D = none → RowsIn H3 D ws → (∀ z, z ∈ ws → z ∈ zs ∧ z.2.2 = 0) → ws ≠ [] → ws.length ≤ 20 → Q (.ref D) H3) :
    tLc (iList K (tVar 1)) (gName 6) (tTest (tOp rEq (tOp (rIxT K) (tVar 6) (tC (.int 1))) (tC (.int 0)))) (tVar 6) [6] [y0, some (.ref b), y2, y3, y4, y5, y6, y7] H Q := by
  have lzs : zs.length ≤ 20 := by
    have := gd.few
    rwa [List.length_map] at this
  refine ⟨_, rfl, b, rfl, ⟨_, .inl (.inl ri.1)⟩, fun D nD => ?_⟩
  have smD := same_new (o := .lst []) nD
  refine lc_list (K := K) (a := b) (xs := zs.map fun z => V.ref z.1) (fun i H3 => Same H H3 ∧ ∃ ws : List Rw, RowsIn H3 D ws ∧ (∀ z, z ∈ ws → z ∈ zs ∧ z.2.2 = 0) ∧ (∀ (j : Nat) z, j < i → zs[j]? = some z → z.2.2 = 0 → z ∈ ws) ∧ ws.length ≤ i)
    ⟨smD, [], ⟨upd_same, fun z hz => (nomatch hz)⟩, fun z hz => (nomatch hz), fun j z h => absurd h (Nat.not_lt_zero _), Nat.le_refl _⟩ (fun i H3 _ h => .inl (.inl (h.1 _ _ ri.1))) ?_ ?_
  · rintro i y H3 hi ⟨sm, ws, rw3, h1, h2, l3⟩
    rw [List.getElem?_map] at hi
    obtain ⟨z, hz, rfl⟩ := Option.map_eq_some_iff.mp hi
    have lt : i < zs.length := (List.getElem?_eq_some_iff.mp hz).1
    have ez := sm _ _ (ri.2 z (List.mem_of_getElem? hz))
    refine ⟨rfl, _, rfl, z.1, _, 1, .int (z.2.2 : Int), rfl, rfl, SqT.of ez, atI_nat (j := 1) rfl, rfl, _, rfl, ite2 (fun e0 => ?_) (fun e0 => ?_)⟩
    · have z0 : z.2.2 = 0 := by
        have := of_decide_eq_true (p := V.int (z.2.2 : Int) = V.int 0) e0
        injection this with this
        exact Int.ofNat.inj this
      refine ⟨_, rfl, _, rw3.1, by rw [List.length_map]; exact small1000 (by omega), fun c o hc => ?_, ws ++ [z], rw3.add ez, fun y hy => ?_, fun j y hj hy h0 => ?_, by rw [List.length_append]; exact Nat.succ_le_succ l3⟩
      · rw [upd_ne (ne_of_none hc nD)]
        exact sm c o hc
      · rcases List.mem_append.mp hy with hy | hy
        · exact h1 y hy
        · rw [List.mem_singleton.mp hy]
          exact ⟨List.mem_of_getElem? hz, z0⟩
      · by_cases e : j = i
        · rw [e, hz] at hy
          cases hy
          exact List.mem_append_right _ (List.mem_singleton.mpr rfl)
        · exact List.mem_append_left _ (h2 j y (by omega) hy h0)
    · refine ⟨sm, ws, rw3, h1, fun j y hj hy h0 => ?_, by omega⟩
      by_cases e : j = i
      · rw [e, hz] at hy
        cases hy
        rw [h0] at e0
        exact absurd (decide_eq_true rfl) e0
      · exact h2 j y (by omega) hy h0
  rintro H3 ⟨sm, ws, rw3, h1, h2, l3⟩
  rw [List.length_map] at h2 l3
  refine q D ws H3 sm nD rw3 h1 (fun e => ?_) (by omega)
  obtain ⟨r, hr, r0⟩ := gd.cell
  obtain ⟨z, hz, rfl⟩ := List.mem_map.mp hr
  obtain ⟨j, hj⟩ := List.getElem?_of_mem hz
  have := h2 j z (List.getElem?_eq_some_iff.mp hj).1 hj r0
  rw [e] at this
  cases this
end
section
variable {P : Program} {w : World} {K : PySem.W.Frag} {mg : Str → Option Value} {base : Heap}
def spLt (K : PySem.W.Frag) (n : Nat) : Sp := fun vs H Q _ => ∃ (a b : Addr) (m : Nat) (zs : List Rw), vs = [.ref a, .ref b, .int (n : Int)] ∧ 0 < n ∧ Dice H a m ∧ m + cost n < cap ∧ RowsIn H b zs ∧ b ≠ a ∧ Good (zs.map Prod.snd) ∧
  ∀ (x : V) (d : PyData) H', But a H H' → Dice H' a (m + cost n) → Dx K H' x d → Tm (zs.map Prod.snd) n d → Q x H'
theorem ok_lt (T : Tx K mg) : ∀ n, FnOk P w K mg base CX0 (n + 3) T.a_law_term T.d_law_term ["dice", "names", "deep"] (spLt K n)
  | 0 => by
    refine T.f_law_term.ok sc__law_term (fun vs H Q E h => ?_) (fun cdv A outer s H vs Q E hr h => ?_)
    · obtain ⟨a, b, m, zs, rfl, _⟩ := h
      rfl
    · obtain ⟨a, b, m, zs, rfl, h0, _⟩ := h
      exact absurd h0 (Nat.lt_irrefl _)
  | n + 1 => by
    have nd := sc__law_term.nd
    have G0 := ok_lt T n
    have G1 := ok_roll (P := P) (w := w) (base := base) T
    have G2 := ok_pick (P := P) (w := w) (base := base) T
    refine T.f_law_term.ok sc__law_term (fun vs H Q E h => ?_) (fun cdv A outer s H vs Q E hr h => ?_)
    · obtain ⟨a, b, m, zs, rfl, _⟩ := h
      rfl
    · obtain ⟨a, b, m, zs, rfl, _, hd, hc, ri, nba, gd, q⟩ := h
      refine ⟨_, (C8.pss_cut (ps_set (i := 3) nd rfl (.inl rfl) (pe_ifExp (PW.pt (pw_and (pt_cmpR op_gt (pv 2) pe_int (nomark _)) (pw_and1 (pt_cmpR op_gt (pe_call G1 (hr.mono (by omega)) (by rfl) T.g_law_roll T.f_law_roll.kp T.n_law_roll .nil pass0 (pa_cons (pv 0) (pa_cons pe_int pa_nil))) pe_int (nomark _))))) (pv 1) (pe_lc (own := [("row", 6)]) (g := (gName 6)) (by rfl) nd (pi_list (pv 1)) (blkOk_by (own := [("row", 6)]) (N := N__law_term) (sc := defScope s__law_term) (by decide +kernel)) (fun _ _ _ _ _ => pg_name (i := 6) nd rfl (.inl rfl)) (fun _ _ _ _ _ => (pts_one (pt_cmpR op_eq (pe_ix (r := rIxT K) ix_tup (pv 6) pe_int (fun _ _ => rfl)) pe_int (nomark _)))) (fun _ _ _ _ _ => (pv 6)))))
      (pss_cons (ps_asg (pe_call G2 (hr.mono (by omega)) (by rfl) T.g_law_pick T.f_law_pick.kp T.n_law_pick .nil pass0 (pa_cons (pv 0) (pa_cons (pv 3) pa_nil))) (pg_tup rfl (pgs_cons (pg_name (i := 4) nd rfl (.inl rfl)) (pgs_cons (pg_name (i := 5) nd rfl (.inl rfl)) pgs_nil))))
      (pss_one (ps_ret (pe_op op_catA (pe_tup (pa_cons (pv 4) pa_nil)) (pe_callTy call_tuple_of (by rfl) T.b_tuple (by decide +kernel) (pa_cons (pe_lc (own := [("turn", 7)]) (g := (gName 7)) (tt := tYes) (by rfl) nd (pi_range1 (by rfl) T.b_range (pa_cons (pv 5) pa_nil)) (blkOk_by (own := [("turn", 7)]) (N := N__law_term) (sc := defScope s__law_term) (by decide +kernel)) (fun _ _ _ _ _ => pg_name (i := 7) nd rfl (.inl rfl)) (fun _ _ _ _ _ => pts_nil) (fun s1 H1 C1 cl1 fp1 => (pe_call G0 (hr.mono (by omega)) (by rfl) T.g_law_term T.f_law_term.kp T.n_law_term .nil pass0 (pa_cons (pv 0) (pa_cons (pv 1) (pa_cons (pe_op op_sub (pv 2) pe_int) pa_nil)))))) pa_nil))))))), ?_⟩
      have lzs : zs.length ≤ 20 := by
        have := gd.few
        rwa [List.length_map] at this
      refine ⟨fun σ' H' => But a H H' ∧ Dice H' a (m + 1) ∧ RowsIn H' b zs ∧ ∃ (s : Addr) (vs : List Rw), σ' = [some (.ref a), some (.ref b), some (.int ((n + 1 : Nat) : Int)), some (.ref s), none, none, none, none] ∧ RowsIn H' s vs ∧ s ≠ a ∧ vs ≠ [] ∧ vs.length ≤ 20 ∧ (∀ z, z ∈ vs → z ∈ zs) ∧ (n = 0 → ∀ z, z ∈ vs → z.2.2 = 0), ?_, ?_⟩
      · refine ⟨_, rfl, _, _, rfl, rfl, _, rfl, ite2 (fun e1 => ?_) (fun e1 => ?_)⟩
        · have n0 : n ≠ 0 := fun z => by
            have := of_decide_eq_true e1
            rw [z] at this
            exact absurd this (by decide)
          refine ⟨_, rfl, a, m, 3, rfl, hd, ?_, by decide, by decide, fun r H4 bt dd r0 r1 => ⟨_, _, rfl, rfl, _, rfl, ite2 (fun e2 => ?_) (fun e2 => ?_)⟩⟩
          · rw [cost] at hc
            omega
          · have ri4 := ri.but bt hd nba
            refine ⟨_, rfl, bt, dd, ri4, b, zs, rfl, ri4, nba, fun z => ?_, lzs, fun z hz => hz, fun z => absurd z n0⟩
            rw [z] at lzs
            obtain ⟨r, hr, _⟩ := gd.cell
            rw [z] at hr
            cases hr
          · have ri4 := ri.but bt hd nba
            exact cells_rd ri4 gd fun D ws H5 s5 nD rw5 sub ne few => ⟨bt.trans (But.of s5), dd.up s5, ri4.up s5, D, ws, rfl, rw5, dd.ne nD, ne, few, fun z hz => (sub z hz).1, fun _ z hz => (sub z hz).2⟩
        · exact iteF (cells_rd ri gd fun D ws H5 s5 nD rw5 sub ne few => ⟨But.of s5, (hd.up s5).le (Nat.le_succ m), ri.up s5, D, ws, rfl, rw5, hd.ne nD, ne, few, fun z hz => (sub z hz).1, fun _ z hz => (sub z hz).2⟩)
      rintro σ1 H5 ⟨bt5, dd5, ri5, s5, vs, rfl, rs5, ns5, vne, lvs, sub, leaf⟩
      have vp : 0 < vs.length := by
        cases vs with
        | nil => exact absurd rfl vne
        | cons _ _ => exact Nat.succ_pos _
      -- the pick
      refine ⟨_, rfl, _, rfl, a, s5, m + 1, _, rfl, dd5, ?_, .inl (.inl rs5.1), ns5, by rw [List.length_map]; exact vp, by rw [List.length_map]; omega, fun i v H6 bt6 dd6 hi => ?_⟩
      · rw [cost] at hc
        omega
      rw [List.getElem?_map] at hi
      obtain ⟨z, hz, rfl⟩ := Option.map_eq_some_iff.mp hi
      have zin := sub z (List.mem_of_getElem? hz)
      have leaf := fun e => leaf e z (List.mem_of_getElem? hz)
      have rs6 := rs5.but bt6 dd5 ns5
      have ri6 := ri5.but bt6 dd5 nba
      have ez := rs6.2 z (List.mem_of_getElem? hz)
      have gz := gd.nm z.2 (List.mem_map.mpr ⟨z, zin, rfl⟩)
      have zmem : z.2 ∈ zs.map Prod.snd := List.mem_map.mpr ⟨z, zin, rfl⟩
      have bt6 := bt5.trans bt6
      obtain ⟨za, nm, k⟩ := z
      dsimp only at gz leaf ez zmem
      refine ⟨za, _, rfl, SqT.of ez, rfl, _, _, rfl, _, _, rfl, rfl, ?_⟩
      -- the head
      refine ⟨_, rfl, (by show 1 ≤ sizeLine; decide), fun t nt => ?_⟩
      have smt := same_new (o := .tup [.str nm]) nt
      have nta := dd6.ne nt
      refine ⟨_, rfl, (k : Int), rfl, by omega, by omega, fun D2 nD2 => ?_⟩
      have smD2 := same_new (o := .lst []) nD2
      have nD2a := (dd6.up smt).ne nD2
      have btD := bt6.trans ((But.of smt).trans (But.of smD2))
      have nD2H := But.free (bt6.trans (But.of smt)) nD2a nD2
      have ek : ((k : Int)).toNat = k := Int.toNat_natCast k
      rw [ek]
      refine lc_range (fun i H7 => But a H H7 ∧ Dice H7 a (m + 2 + i * cost n) ∧ RowsIn H7 b zs ∧ H7 t = some (.tup [.str nm]) ∧ ∃ (ws : List V) (ds : List PyData), H7 D2 = some (.lst ws) ∧ DxAll K H7 ws ds ∧ ds.length = i ∧ formedAll ds = true ∧ (∀ r, r ∈ rowsAll ds → r ∈ zs.map Prod.snd) ∧ PyData.depthAll ds ≤ n)
        ⟨btD, (dd6.up (smt.trans smD2)).le (Nat.le_add_right _ _), ri6.up (smt.trans smD2), smD2 _ _ upd_same, [], [], upd_same, .nil, rfl, rfl, fun r h => (nomatch h), Nat.zero_le _⟩ ?_ ?_
      · rintro i H7 hi ⟨bt7, dd7, ri7, et7, ws7, ds7, eD7, dx7, l7, f7, r7, p7⟩
        have n0 : 0 < n := by
          cases n with
          | zero =>
            have := leaf rfl
            omega
          | succ n => exact Nat.succ_pos _
        refine ⟨rfl, (iteT (B := False) ?_ : if true = true then _ else False)⟩
        have c1 : cost (n + 1) = 2 + 3 * cost n := rfl
        have ic : i * cost n + cost n ≤ 3 * cost n := by
          have := Nat.mul_le_mul_right (cost n) (show i + 1 ≤ 3 by omega)
          rwa [Nat.add_mul, Nat.one_mul] at this
        refine ⟨_, rfl, _, rfl, _, rfl, _, _, rfl, rfl, a, b, m + 2 + i * cost n, zs, ?_, n0, dd7, by omega, ri7, nba, gd, fun x d H8 bt8 dd8 hx tm => ?_⟩
        · show [V.ref a, V.ref b, V.int (((n + 1 : Nat) : Int) - 1)] = _
          rw [show ((n + 1 : Nat) : Int) - 1 = (n : Int) by omega]
        · have ts := Tups.but bt8 dd7
          have eD8 := bt8 _ _ eD7 nD2a
          have tD : Tups H8 (upd H8 D2 (.lst (ws7 ++ [x]))) := Tups.lst eD8
          have lw := dx7.length
          refine ⟨ws7, eD8, small1000 (by omega), (bt7.trans bt8).put nD2H, (dd8.put nD2a).le (by rw [Nat.add_mul, Nat.one_mul]; omega), ?_, tD _ _ (ts _ _ et7), ws7 ++ [x], ds7 ++ [d], upd_same, DxAll.append (DxAll.ts (ts.trans tD) _ _ (pure_formedAll _ f7) dx7) (.cons (Dx.ts tD _ _ (pure_formed _ tm.fm) hx) .nil), by rw [List.length_append, l7]; rfl, by rw [formedAll_snoc, f7, tm.fm]; rfl, fun r hr => ?_, depthAll_snoc p7 tm.dp⟩
          · exact ((ri7.but bt8 dd7 nba).off eD8 (ne_of_none ri.1 nD2H).symm)
          · rw [rowsAll_append] at hr
            rcases List.mem_append.mp hr with h | h
            · exact r7 r h
            · simp only [rowsAll, List.append_nil] at h
              exact tm.rw r h
      · rintro H7 ⟨bt7, dd7, ri7, et7, ws7, ds7, eD7, dx7, l7, f7, r7, p7⟩
        have lw := dx7.length
        have c1 : cost (n + 1) = 2 + 3 * cost n := rfl
        have kc : k * cost n ≤ 3 * cost n := Nat.mul_le_mul_right (cost n) gz.2
        refine ⟨D2, ws7, rfl, .inl ⟨.inl (.inl eD7), fun u nu => ?_⟩⟩
        have smu := same_new (o := .tup ws7) nu
        have et8 := smu _ _ et7
        have dx8 := dx7.up smu
        have fm : formedD (.tuple (.str nm :: ds7)) = true := by
          simp [formedD, nameD, gz.1, f7, l7, gz.2]
        have tm : Tm (zs.map Prod.snd) (n + 1) (.tuple (.str nm :: ds7)) := by
          refine ⟨fm, fun r hr => ?_, ?_⟩
          · rw [rowsD, headD, l7] at hr
            rcases List.mem_cons.mp hr with h | h
            · rw [h]
              exact zmem
            · exact r7 r h
          · simp only [PyData.depth, PyData.depthAll]
            omega
        have bt8 := bt7.trans (But.of smu)
        have dd8 := (dd7.up smu).le (show m + 2 + k * cost n ≤ m + cost (n + 1) by omega)
        refine ⟨t, u, _, _, rfl, rfl, SqT.of et8, SqT.of upd_same, Nat.le_of_lt (small1000 (by rw [List.length_singleton]; omega)), fun z => (nomatch z), fun _ e => ?_, fun _ _ v nv => ?_⟩
        · subst e
          cases dx8
          exact q _ _ _ bt8 dd8 (.tup et8 (.cons (.str _) .nil)) tm
        · have smv := same_new (o := .tup ([V.str nm] ++ ws7)) nv
          exact q _ _ _ (bt8.trans (But.of smv)) (dd8.up smv) (.tup upd_same (.cons (.str _) (dx8.up smv))) tm
end
end K11
/-! Pairs of the law. -/
namespace K11
open PySem PySem.Spec PyProof.Rows L2 Kx
/-- a term with names of rs, of n levels at most -/
theorem Tm.le {rs : List NK} {n m : Nat} {d : PyData} (h : Tm rs n d) (l : n ≤ m) : Tm rs m d := ⟨h.fm, h.rw, Nat.le_trans h.dp l⟩
/-- the parts of a term, few -/
def big : Nat → Nat
  | 0 => 1
  | n + 1 => 2 + 3 * big n
mutual
theorem sz_formed : ∀ (d : PyData) (n : Nat), formedD d = true → d.depth ≤ n → szD d ≤ big n
  | .tuple (a :: ds), 0, _, dp => by simp [PyData.depth] at dp
  | .tuple (a :: ds), n + 1, h, dp => by
    obtain ⟨x, ds', e, l3, _, hf⟩ := formed_shape h
    injection e with e
    injection e with e1 e2
    subst e1 e2
    have dd : PyData.depthAll ds ≤ n := by
      simp only [PyData.depth, PyData.depthAll] at dp
      omega
    have := sz_formedAll ds n hf dd
    have b0 : ds.length * big n ≤ 3 * big n := Nat.mul_le_mul_right _ l3
    simp only [szD, szAll, big]
    omega
  | .tuple [], _, h, _ => by cases h
  | .none, _, h, _ => by cases h
  | .bool _, _, h, _ => by cases h
  | .int _, _, h, _ => by cases h
  | .str _, _, h, _ => by cases h
  | .list _, _, h, _ => by cases h
  | .dict _, _, h, _ => by cases h
theorem sz_formedAll : ∀ (ds : List PyData) (n : Nat), formedAll ds = true → PyData.depthAll ds ≤ n → szAll ds ≤ ds.length * big n
  | [], _, _, _ => by simp [szAll]
  | d :: ds, n, h, dp => by
    rw [formedAll, Bool.and_eq_true] at h
    rw [PyData.depthAll] at dp
    have h1 := sz_formed d n h.1 (by omega)
    have h2 := sz_formedAll ds n h.2 (by omega)
    rw [szAll, List.length_cons, Nat.add_mul, Nat.one_mul]
    omega
end
theorem big3 : big 3 = 53 := rfl
theorem tx_few {d : PyData} {n : Nat} (h : formedD d = true) (dp : d.depth ≤ n) (ln : n ≤ 6) : (tx d).length ≤ 1000000 := by
  have z := sz_formed d n h dp
  have m : big n ≤ big 6 := by
    have : ∀ i j, i ≤ j → big i ≤ big j := fun i j hij => by
      induction hij with
      | refl => exact Nat.le_refl _
      | step _ ih => exact Nat.le_trans ih (by rw [big]; omega)
    exact this _ _ ln
  have b6 : big 6 = 1457 := rfl
  exact (wr_of h (by omega)).t
section
variable {P : Program} {w : World} {K : PySem.W.Frag} {mg : Str → Option Value} {base : Heap}
/-- (one, other), the less first -/
def ordP (a b : PyData) : PyData := if ltR a b then .tuple [a, b] else .tuple [b, a]
def spLp (K : PySem.W.Frag) : Sp := fun vs H Q _ => ∃ (x y : V) (d e : PyData), vs = [x, y] ∧ Dx K H x d ∧ Dx K H y e ∧ formedD d = true ∧ formedD e = true ∧ d.depth ≤ 60 ∧
  ∀ z H', Same H H' → Dx K H' z (ordP d e) → Q z H'
theorem ok_lp (T : Tx K mg) : FnOk P w K mg base CX0 1 T.a_law_pair T.d_law_pair ["one", "other"] (spLp K) := by
  have nd := sc__law_pair.nd
  refine T.f_law_pair.ok sc__law_pair (fun vs H Q E h => ?_) (fun cdv A outer s H vs Q E hr h => ?_)
  · obtain ⟨x, y, d, e, rfl, _⟩ := h
    rfl
  obtain ⟨x, y, d, e, rfl, hx, hy, fd, fe, dp, q⟩ := h
  refine ⟨_, (pss_one (ps_ret (pe_ifExp (pt_cmpR (op_ltD hr.units) (pv 0) (pv 1) (nomark _)) (pe_tup (pa_cons (pv 0) (pa_cons (pv 1) pa_nil))) (pe_tup (pa_cons (pv 1) (pa_cons (pv 0) pa_nil)))))), ?_⟩
  refine ⟨_, rfl, _, rfl, d, e, hx, hy, alike_formed d e fd fe, (fun z => by rw [z] at fd; cases fd), dp, _, rfl, ite2 (fun h => ?_) (fun h => ?_)⟩
  · refine ⟨_, rfl, _, rfl, by show 2 ≤ sizeLine; decide, fun p np => q _ _ (same_put np) ?_⟩
    rw [ordP, if_pos (show ltR d e from h)]
    exact .tup upd_same (.cons (hx.up (same_put np)) (.cons (hy.up (same_put np)) .nil))
  · refine ⟨_, rfl, _, rfl, by show 2 ≤ sizeLine; decide, fun p np => q _ _ (same_put np) ?_⟩
    rw [ordP, if_neg (show ¬ ltR d e from h)]
    exact .tup upd_same (.cons (hy.up (same_put np)) (.cons (hx.up (same_put np)) .nil))
/-- a pair over rs, the less first -/
structure Pr (rs : List NK) (n : Nat) (z : PyData) : Prop where
  ex : ∃ a b, z = .tuple [a, b] ∧ Tm rs n a ∧ Tm rs n b ∧ ltR a b
theorem pr_ord {rs : List NK} {n : Nat} {a b : PyData} (ha : Tm rs n a) (hb : Tm rs n b) (ne : a ≠ b) : Pr rs n (ordP a b) := by
  unfold ordP
  by_cases h : ltR a b
  · rw [if_pos h]
    exact ⟨a, b, rfl, ha, hb, h⟩
  · rw [if_neg h]
    refine ⟨b, a, rfl, hb, ha, ?_⟩
    rcases ltR_tri ha.fm hb.fm with z | z | z
    · exact absurd z h
    · exact absurd z ne
    · exact z
end
mutual
theorem lay_formed : ∀ (d : PyData), formedD d = true → d.canLay0 = true ∧ d.hasDict = false
  | .tuple (a :: ds), h => by
    obtain ⟨x, ds', e, _, hx, hf⟩ := formed_shape h
    injection e with e
    injection e with e1 e2
    subst e1 e2
    obtain ⟨i1, i2⟩ := lay_formedAll ds hf
    have so : PyData.strOk x = true := Array.all_eq_true'.mpr fun c hc => by
      have := letters_le hx c (Array.mem_toList_iff.mpr hc)
      exact decide_eq_true (by omega)
    exact ⟨by simp [PyData.canLay0, PyData.canLayAll0, so, i1], by simp [PyData.hasDict, PyData.hasDictAll, i2]⟩
  | .tuple [], h => by cases h
  | .none, h => by cases h
  | .bool _, h => by cases h
  | .int _, h => by cases h
  | .str _, h => by cases h
  | .list _, h => by cases h
  | .dict _, h => by cases h
theorem lay_formedAll : ∀ (ds : List PyData), formedAll ds = true → PyData.canLayAll0 ds = true ∧ PyData.hasDictAll ds = false
  | [], _ => ⟨rfl, rfl⟩
  | d :: ds, h => by
    rw [formedAll, Bool.and_eq_true] at h
    obtain ⟨a, b⟩ := lay_formed d h.1
    obtain ⟨c, e⟩ := lay_formedAll ds h.2
    exact ⟨by rw [PyData.canLayAll0, a, c]; rfl, by rw [PyData.hasDictAll, b, e]; rfl⟩
end
section
variable {P : Program} {w : World} {K : PySem.W.Frag} {mg : Str → Option Value} {base : Heap}
def spDp (K : PySem.W.Frag) (n : Nat) : Sp := fun vs H Q _ => ∃ (a b : Addr) (m : Nat) (zs : List Rw), vs = [.ref a, .ref b, .int (n : Int)] ∧ 0 < n ∧ n ≤ 3 ∧ Dice H a m ∧ m + 320 < cap ∧ RowsIn H b zs ∧ b ≠ a ∧ Good (zs.map Prod.snd) ∧
  ∀ (x : V) (d : PyData) H', But a H H' → Dice H' a (m + 320) → Dx K H' x d → Pr (zs.map Prod.snd) n d → Q x H'
theorem cost_le {n : Nat} (h : n ≤ 3) : cost n ≤ 26 := by
  match n, h with
  | 0, _ => decide
  | 1, _ => decide
  | 2, _ => decide
  | 3, _ => decide
theorem cell_tm {rs : List NK} {n : Nat} {x : Str} (n0 : 0 < n) (h : (x, 0) ∈ rs) (nm : isNm x = true) : Tm rs n (.tuple [.str x]) := by
  refine ⟨by simp [formedD, nameD, nm, formedAll], fun r hr => ?_, by simp [PyData.depth, PyData.depthAll]; omega⟩
  simp only [rowsD, headD, rowsAll, List.length_nil, List.mem_singleton] at hr
  rw [hr]
  exact h
theorem ok_dp (T : Tx K mg) (n : Nat) : FnOk P w K mg base CX0 (n + 4) T.a_law_drawn_pair T.d_law_drawn_pair ["dice", "names", "deep"] (spDp K n) := by
  have nd := sc__law_drawn_pair.nd
  have GT := ok_lt (P := P) (w := w) (base := base) T n
  have GP := ok_lp (P := P) (w := w) (base := base) T
  refine T.f_law_drawn_pair.ok sc__law_drawn_pair (fun vs H Q E h => ?_) (fun cdv A outer s H vs Q E hr h => ?_)
  · obtain ⟨a, b, m, zs, rfl, _⟩ := h
    rfl
  obtain ⟨a, b, m, zs, rfl, n0, n3, hd, hm, ri, nba, gd, q⟩ := h
  have c26 := cost_le n3
  refine ⟨_, (pss_cons (ps_for PassesOwn.never rfl (pi_range1 (by rfl) T.b_range (pa_cons pe_int pa_nil)) (pg_name (i := 3) nd rfl (.inl rfl)) (pss_cons (ps_par (i := 4) (j := 5) (by rfl) nd rfl rfl (by decide) rfl rfl (pa_cons (pe_call GT (hr.mono (by omega)) (by rfl) T.g_law_term T.f_law_term.kp T.n_law_term .nil pass0 (pa_cons (pv 0) (pa_cons (pv 1) (pa_cons (pv 2) pa_nil)))) (pa_cons (pe_call GT (hr.mono (by omega)) (by rfl) T.g_law_term T.f_law_term.kp T.n_law_term .nil pass0 (pa_cons (pv 0) (pa_cons (pv 1) (pa_cons (pv 2) pa_nil)))) pa_nil)) (by rfl))
      (pss_one (ps_if (pt_cmpR (op_neF (room200 hr)) (pv 4) (pv 5) (nomark _)) (pss_one (ps_ret (pe_call GP (hr.mono (by omega)) (by rfl) T.g_law_pair T.f_law_pair.kp T.n_law_pair .nil pass0 (pa_cons (pv 4) (pa_cons (pv 5) pa_nil))))) pss_nil))))
      (pss_cons (ps_set (i := 6) nd rfl (.inl rfl) (pe_callB (cr_sortedD hr.units) (by rfl) T.b_sorted (by decide +kernel) (pa_cons (pe_lc (own := [("name", 7), ("places", 8)]) (g := (gTup K 2 (gCons (gName 7) (gCons (gName 8) gNil)))) (by rfl) nd (pi_list (pv 1)) (blkOk_by (own := [("name", 7), ("places", 8)]) (N := N__law_drawn_pair) (sc := defScope s__law_drawn_pair) (by decide +kernel)) (fun _ _ _ _ _ => pg_tup rfl (pgs_cons (pg_name (i := 7) nd rfl (.inl rfl)) (pgs_cons (pg_name (i := 8) nd rfl (.inl rfl)) pgs_nil))) (fun _ _ _ _ _ => (pts_one (pt_cmpR op_eq (pv 8) pe_int (nomark _)))) (fun _ _ _ _ _ => (pv 7))) pa_nil)))
      (pss_one (ps_ret (pe_tup (pa_cons (pe_tup (pa_cons (pe_ix ix_list (pv 6) pe_int (fun _ _ => rfl)) pa_nil)) (pa_cons (pe_tup (pa_cons (pe_ix ix_list (pv 6) pe_int (fun _ _ => rfl)) pa_nil)) pa_nil))))))), ?_⟩
  refine ⟨6, rfl, by decide, by decide, for_range (fun k σ G => But a H G ∧ Dice G a (m + 52 * k) ∧ RowsIn G b zs ∧ ∃ y3 y4 y5, σ = [some (.ref a), some (.ref b), some (.int (n : Int)), y3, y4, y5, none, none, none]) ⟨But.refl a H, hd, ri, none, none, none, rfl⟩ ?_ ?_⟩
  · rintro k σ G hk ⟨bG, dG, rG, y3, y4, y5, rfl⟩
    have hk : k < 6 := hk
    refine ⟨_, rfl, _, rfl, _, rfl, a, b, m + 52 * k, zs, rfl, n0, dG, by omega, rG, nba, gd, fun x1 d1 G1 b1 dd1 dx1 t1 => ?_⟩
    have rG1 := rG.but b1 dG nba
    refine ⟨_, rfl, _, rfl, _, rfl, a, b, m + 52 * k + cost n, zs, rfl, n0, dd1, by omega, rG1, nba, gd, fun x2 d2 G2 b2 dd2 dx2 t2 => ?_⟩
    have bG2 := bG.trans (b1.trans b2)
    have dx1 := Dx.ts (Tups.but b2 dd1) _ _ (pure_formed _ t1.fm) dx1
    obtain ⟨la1, hd1⟩ := lay_formed d1 t1.fm
    obtain ⟨la2, hd2⟩ := lay_formed d2 t2.fm
    have dd2 : Dice G2 a (m + 52 * (k + 1)) := dd2.le (by omega)
    refine ⟨_, _, rfl, ?_⟩
    refine ⟨_, rfl, _, rfl, d1, d2, dx1.dp hd1, dx2.dp hd2, la1, la2, by have := t1.dp; omega, _, rfl, ?_⟩
    cases he : PyData.eqv d1 d2 with
    | true => exact iteF ⟨bG2, dd2, rG1.but b2 dd1 nba, _, _, _, rfl⟩
    | false =>
      have ne : d1 ≠ d2 := fun z => by
        rw [(eqv_formed d1 d2 t1.fm t2.fm).mpr z] at he
        cases he
      exact iteT ⟨_, rfl, _, rfl, x1, x2, d1, d2, rfl, dx1, dx2, t1.fm, t2.fm, by have := t1.dp; omega, fun z H' s dz => q z _ H' (bG2.trans (But.of s)) ((dd2.up s).le (by omega)) dz (pr_ord t1 t2 ne)⟩
  · rintro σ G ⟨bG, dG, rG, y3, y4, y5, rfl⟩
    have dG : Dice G a (m + 312) := dG
    have lzs : zs.length ≤ 20 := by
      have := gd.few
      rwa [List.length_map] at this
    refine ⟨_, rfl, b, rfl, ⟨_, SqL.of rG.1⟩, fun D nD => ?_⟩
    have cells : ∀ i, i ≤ zs.length → ((zs.take i).filter fun z => decide (z.2.2 = 0)).length ≤ 20 := fun i hi => by
      have := List.length_filter_le (fun z : Rw => decide (z.2.2 = 0)) (zs.take i)
      rw [List.length_take] at this
      omega
    refine lc_list (K := K) (a := b) (xs := zs.map fun z => V.ref z.1) (fun i G1 => Same G G1 ∧ G1 D = some (.lst (((zs.take i).filter fun z => decide (z.2.2 = 0)).map fun z => V.str z.2.1))) ⟨same_put nD, upd_same⟩ (fun i G1 _ h => SqL.of (h.1 _ _ rG.1)) ?_ ?_
    · rintro i y G1 hi ⟨sG, eD⟩
      rw [List.getElem?_map] at hi
      obtain ⟨z, hz, rfl⟩ := Option.map_eq_some_iff.mp hi
      have lt : i < zs.length := (List.getElem?_eq_some_iff.mp hz).1
      have ez := sG _ _ (rG.2 z (List.mem_of_getElem? hz))
      have et : (zs.take (i + 1)).filter (fun z => decide (z.2.2 = 0)) = (zs.take i).filter (fun z => decide (z.2.2 = 0)) ++ [z].filter (fun z => decide (z.2.2 = 0)) := by
        rw [List.take_add_one, hz, List.filter_append]
        rfl
      refine ⟨z.1, _, rfl, SqT.of ez, rfl, _, _, rfl, _, _, rfl, rfl, rfl, _, rfl, rfl, _, rfl, ite2 (fun e0 => ?_) (fun e0 => ?_)⟩
      · have z0 : z.2.2 = 0 := by
          have := of_decide_eq_true (p := V.int (z.2.2 : Int) = V.int 0) e0
          injection this with this
          exact Int.ofNat.inj this
        refine ⟨_, rfl, _, eD, ?_, fun c o hc => ?_, ?_⟩
        · rw [List.length_map]
          exact small1000 (by have := cells i (by omega); omega)
        · rw [upd_ne (ne_of_none hc nD)]
          exact sG _ _ hc
        · rw [upd_same, et, List.map_append]
          simp [z0]
      · have z0 : z.2.2 ≠ 0 := fun h => by
          rw [h] at e0
          exact absurd (decide_eq_true rfl) e0
        refine ⟨sG, ?_⟩
        rw [et]
        simp [z0, eD]
    rintro G1 ⟨sG, eD⟩
    rw [List.length_map, List.take_length] at eD
    obtain ⟨cs, ecs⟩ : ∃ cs, cs = (zs.filter fun z => decide (z.2.2 = 0)).map fun z => z.2.1 := ⟨_, rfl⟩
    have lcs : cs.length ≤ 20 := by
      have := cells zs.length (Nat.le_refl _)
      rw [List.take_length] at this
      rw [ecs, List.length_map]
      exact this
    have mcs : ∀ x, x ∈ cs ↔ (x, 0) ∈ zs.map Prod.snd := fun x => by
      rw [ecs]
      simp only [List.mem_map, List.mem_filter, decide_eq_true_eq]
      constructor
      · rintro ⟨z, ⟨hz, h0⟩, rfl⟩
        exact ⟨z, hz, by rw [← h0]⟩
      · rintro ⟨z, hz, e⟩
        exact ⟨z, ⟨hz, by rw [e]⟩, by rw [e]⟩
    have ndc : cs.Nodup := by
      have n1 := gd.nd
      rw [List.map_map] at n1
      rw [ecs]
      exact List.Nodup.sublist ((List.filter_sublist (l := zs)).map _) n1
    have eD2 : G1 D = some (.lst (cs.map V.str)) := by
      rw [eD, ecs, List.map_map]
      rfl
    have fst : ∀ l : List Str, (l.map fun x => ((V.str x, PyData.str x) : Item)).map Prod.fst = l.map V.str := fun l => by rw [List.map_map]; rfl
    have snd : ∀ l : List Str, (l.map fun x => ((V.str x, PyData.str x) : Item)).map Prod.snd = l.map PyData.str := fun l => by rw [List.map_map]; rfl
    refine ⟨D, cs.map fun x => (V.str x, PyData.str x), rfl, by rw [fst]; exact SqL.of eD2, fun p hp => ?_, ?_, ?_, by rw [List.length_map]; exact Nat.le_of_lt (small1000 (by omega)), fun p hp => ?_, fun p np => ?_⟩
    · obtain ⟨x, _, rfl⟩ := List.mem_map.mp hp
      exact .str x
    · rw [snd]
      exact PySem.W.AllAlike.of fun b b' => rfl
    · rw [snd]
      exact PySem.W.Sortable.others fun b => ⟨fun z => (nomatch z), fun xs z => (nomatch z)⟩
    · obtain ⟨x, _, rfl⟩ := List.mem_map.mp hp
      simp [PyData.depth]
    · have srt := sort_strict (k := Prod.snd) (l := cs.map fun x => ((V.str x, PyData.str x) : Item)) (by
        rw [List.map_map, List.Nodup, List.pairwise_map]
        refine ndc.imp fun {x y} ne e => ne ?_
        simp only [Function.comp, PySem.W.keyToks, List.cons.injEq, Sum.inr.injEq, and_true] at e
        exact PySem.W.str_of_cps e)
      obtain ⟨ws, pw, ew⟩ := perm_back (List.mergeSort_perm (cs.map fun x => ((V.str x, PyData.str x) : Item)) (PySem.W.dataLe false Prod.snd)).symm cs rfl
      rw [ew] at srt ⊢
      rw [fst]
      rw [List.pairwise_map] at srt
      obtain ⟨x0, y0, nxy, m1, m2⟩ := gd.two
      have m1 := pw.mem_iff.mpr ((mcs x0).mpr m1)
      have m2 := pw.mem_iff.mpr ((mcs y0).mpr m2)
      match ws, pw, srt, m1, m2 with
      | [], _, _, m1, _ => cases m1
      | [x], _, _, m1, m2 =>
        rw [List.mem_singleton.mp m1, List.mem_singleton.mp m2] at nxy
        exact absurd rfl nxy
      | x :: y :: ws, pw, srt, _, _ =>
        rw [List.pairwise_cons] at srt
        have lxy : ltR (.str x) (.str y) := srt.1 y List.mem_cons_self
        have mx := (mcs x).mp (pw.mem_iff.mp List.mem_cons_self)
        have my := (mcs y).mp (pw.mem_iff.mp (List.mem_cons_of_mem _ List.mem_cons_self))
        have s1 := same_put (o := .lst ((x :: y :: ws).map V.str)) np
        have ep : (upd G1 p (.lst ((x :: y :: ws).map V.str))) p = some (.lst (.str x :: .str y :: ws.map V.str)) := upd_same
        have sG2 := sG.trans s1
        generalize upd G1 p (.lst ((x :: y :: ws).map V.str)) = G2 at ep sG2 ⊢
        refine ⟨_, rfl, p, _, 0, .str x, rfl, rfl, SqL.of ep, atI_nat (j := 0) rfl, by show 1 ≤ sizeLine; decide, fun t1 nt1 => ?_⟩
        have s3 := same_put (o := .tup [.str x]) nt1
        refine ⟨_, rfl, p, _, 1, .str y, rfl, rfl, SqL.of (s3 _ _ ep), atI_nat (j := 1) rfl, by show 1 ≤ sizeLine; decide, fun t2 nt2 => ?_⟩
        have s4 := same_put (o := .tup [.str y]) nt2
        refine ⟨by show 2 ≤ sizeLine; decide, fun t3 nt3 => ?_⟩
        have s5 := same_put (o := .tup [.ref t1, .ref t2]) nt3
        have sA := sG2.trans (s3.trans (s4.trans s5))
        refine q _ (.tuple [.tuple [.str x], .tuple [.str y]]) _ (bG.trans (But.of sA)) ((dG.up sA).le (by omega)) (.tup upd_same (.cons (.tup (s5 _ _ (s4 _ _ upd_same)) (.cons (.str x) .nil)) (.cons (.tup (s5 _ _ upd_same) (.cons (.str y) .nil)) .nil))) ⟨_, _, rfl, ?_, ?_, ?_⟩
        · exact cell_tm n0 mx (gd.nm _ mx).1
        · exact cell_tm n0 my (gd.nm _ my).1
        · have : PyData.eqv (.str x) (.str y) ≠ true := fun z => by
            rw [PyData.eqv, beq_iff_eq] at z
            rw [z] at lxy
            exact ltR_irrefl _ lxy
          unfold ltR at lxy ⊢
          rw [PySem.W.dataLt_tuple, PySem.W.dataLt_cons (by simp [PySem.W.alike]), if_neg this]
          exact lxy
end
end K11
/-! Pairs kept by their texts, and sorted. -/
namespace K11
open PySem PySem.Spec PyProof.Rows L2 Kx
mutual
theorem tx_ne : ∀ (d : PyData), formedD d = true → ∀ c, c ∈ tx d → c ≠ 61
  | .tuple (a :: ds), hd, c, hc => by
    obtain ⟨x, ds', ed, _, hx, hds⟩ := formed_shape hd
    injection ed with ed
    injection ed with e1 e2
    subst e1 e2
    have hc : c ∈ x.cps.toList ++ txA ds := hc
    rcases List.mem_append.mp hc with h | h
    · have := letters hx c h
      omega
    · exact txA_ne ds hds c h
  | .tuple [], hd, _, _ => by cases hd
  | .none, hd, _, _ => by cases hd
  | .bool _, hd, _, _ => by cases hd
  | .int _, hd, _, _ => by cases hd
  | .str _, hd, _, _ => by cases hd
  | .list _, hd, _, _ => by cases hd
  | .dict _, hd, _, _ => by cases hd
theorem txA_ne : ∀ (ds : List PyData), formedAll ds = true → ∀ c, c ∈ txA ds → c ≠ 61
  | [], _, _, hc => by cases hc
  | d :: ds, h, c, hc => by
    rw [formedAll, Bool.and_eq_true] at h
    rw [txA] at hc
    rcases List.mem_cons.mp hc with rfl | hc
    · decide
    · rcases List.mem_append.mp hc with hc | hc
      · exact tx_ne d h.1 c hc
      · rcases List.mem_append.mp hc with hc | hc
        · exact txM_ne ds h.2 c hc
        · rw [List.mem_singleton.mp hc]
          decide
theorem txM_ne : ∀ (ds : List PyData), formedAll ds = true → ∀ c, c ∈ txM ds → c ≠ 61
  | [], _, _, hc => by cases hc
  | d :: ds, h, c, hc => by
    rw [formedAll, Bool.and_eq_true] at h
    rw [txM] at hc
    rcases List.mem_cons.mp hc with rfl | hc
    · decide
    · rcases List.mem_append.mp hc with hc | hc
      · exact tx_ne d h.1 c hc
      · exact txM_ne ds h.2 c hc
end
def keyT (a b : PyData) : Str := tS (tx a ++ 61 :: tx b)
theorem split_at : ∀ {l m u v : List Nat}, (∀ c, c ∈ l → c ≠ 61) → (∀ c, c ∈ m → c ≠ 61) → l ++ 61 :: u = m ++ 61 :: v → l = m ∧ u = v
  | [], [], u, v, _, _, h => by simpa using h
  | [], c :: m, u, v, _, hm, h => by
    simp only [List.nil_append, List.cons_append, List.cons.injEq] at h
    exact absurd h.1.symm (hm c List.mem_cons_self)
  | c :: l, [], u, v, hl, _, h => by
    simp only [List.nil_append, List.cons_append, List.cons.injEq] at h
    exact absurd h.1 (hl c List.mem_cons_self)
  | c :: l, d :: m, u, v, hl, hm, h => by
    simp only [List.cons_append, List.cons.injEq] at h
    obtain ⟨e1, e2⟩ := split_at (fun x hx => hl x (List.mem_cons_of_mem _ hx)) (fun x hx => hm x (List.mem_cons_of_mem _ hx)) h.2
    exact ⟨by rw [h.1, e1], e2⟩
theorem keyT_inj {a b c d : PyData} (fa : formedD a = true) (fc : formedD c = true) (h : keyT a b = keyT c d) : tx a = tx c ∧ tx b = tx d := split_at (tx_ne a fa) (tx_ne c fc) (tS_inj h)
theorem keyT_eq {a b c d : PyData} (h : tx a = tx c) (h2 : tx b = tx d) : keyT a b = keyT c d := by
  unfold keyT
  rw [h, h2]
theorem keyT_text {a b : PyData} : (tS (tx a) ++ "=") ++ tS (tx b) = keyT a b := by
  rw [show ("=" : Str) = tS [61] from rfl, tS_app, tS_app]
  unfold keyT
  simp
/-- the dict of pairs of ds, by their texts -/
structure KpD (K : PySem.W.Frag) (G : Hp) (ds : List PyData) (kvs : List (Key × V)) : Prop where
  nd : (kvs.map Prod.fst).Nodup
  at_ : ∀ p, p ∈ kvs → ∃ a b, p.1 = .inr (keyT a b) ∧ Dx K G p.2 (.tuple [a, b]) ∧ Nz ds a b
  all : ∀ a b, Nz ds a b → (.inr (keyT a b) : Key) ∈ kvs.map Prod.fst
theorem KpD.nil {K : PySem.W.Frag} {G : Hp} : KpD K G [] [] := ⟨List.nodup_nil, (fun p hp => by cases hp), fun a b h => by rcases h.2 with z | z <;> cases z⟩
theorem KpD.ts {K : PySem.W.Frag} {G G' : Hp} {ds : List PyData} {kvs : List (Key × V)} (h : KpD K G ds kvs) (C : Cns ds) (t : Tups G G') : KpD K G' ds kvs := ⟨h.nd, fun p hp => by
  obtain ⟨a, b, e, dp, n⟩ := h.at_ p hp
  obtain ⟨⟨fa, fb⟩, _⟩ := C.side n.2
  exact ⟨a, b, e, Dx.ts t _ _ (pure_two fa fb) dp, n⟩, h.all⟩
theorem KpD.put {K : PySem.W.Frag} {G : Hp} {ds : List PyData} {z : PyData} {kvs : List (Key × V)} {a b : PyData} {v : V} (h : KpD K G ds kvs) (dv : Dx K G v (.tuple [a, b])) (l : tx a < tx b) (ez : z = .tuple [a, b] ∨ z = .tuple [b, a]) : KpD K G (ds ++ [z]) (putK kvs (.inr (keyT a b)) v) := by
  have nz : Nz (ds ++ [z]) a b := ⟨l, by rcases ez with rfl | rfl <;> simp⟩
  refine ⟨nodup_put h.nd, fun p hp => ?_, fun c d hcd => ?_⟩
  · rcases mem_put hp with rfl | ⟨hp, _⟩
    · exact ⟨a, b, rfl, dv, nz⟩
    · obtain ⟨c, d, e, dp, n⟩ := h.at_ p hp
      exact ⟨c, d, e, dp, nz_mono (fun _ hz => List.mem_append_left _ hz) n⟩
  · rw [mem_fst_put]
    have key : ∀ x y : PyData, PyData.tuple [x, y] = z → (tx x = tx a ∧ tx y = tx b) ∨ (tx x = tx b ∧ tx y = tx a) := fun x y e => by
      rcases ez with rfl | rfl
      · simp only [PyData.tuple.injEq, List.cons.injEq, and_true] at e
        obtain ⟨rfl, rfl⟩ := e
        exact .inl ⟨rfl, rfl⟩
      · simp only [PyData.tuple.injEq, List.cons.injEq, and_true] at e
        obtain ⟨rfl, rfl⟩ := e
        exact .inr ⟨rfl, rfl⟩
    have fin : ∀ x y : PyData, tx x < tx y → ((tx x = tx a ∧ tx y = tx b) ∨ (tx x = tx b ∧ tx y = tx a)) → (.inr (keyT x y) : Key) = .inr (keyT a b) := fun x y l2 e => by
      rcases e with ⟨e1, e2⟩ | ⟨e1, e2⟩
      · rw [keyT_eq e1 e2]
      · rw [e1, e2] at l2
        exact absurd (List.lt_trans l2 l) (List.lt_irrefl _)
    rcases hcd.2 with m | m
    · rcases List.mem_append.mp m with m | m
      · exact .inl (h.all c d ⟨hcd.1, .inl m⟩)
      · exact .inr (fin c d hcd.1 (key c d (List.mem_singleton.mp m)))
    · rcases List.mem_append.mp m with m | m
      · exact .inl (h.all c d ⟨hcd.1, .inr m⟩)
      · exact .inr (fin c d hcd.1 ((key d c (List.mem_singleton.mp m)).symm.imp And.symm And.symm))
theorem KpD.skip {K : PySem.W.Frag} {G : Hp} {ds : List PyData} {kvs : List (Key × V)} {a b : PyData} (h : KpD K G ds kvs) (e : tx a = tx b) : KpD K G (ds ++ [.tuple [a, b]]) kvs := by
  refine ⟨h.nd, fun p hp => ?_, fun c d hcd => ?_⟩
  · obtain ⟨c, d, e, dp, n⟩ := h.at_ p hp
    exact ⟨c, d, e, dp, nz_mono (fun _ hz => List.mem_append_left _ hz) n⟩
  · have no : ∀ x y : PyData, PyData.tuple [x, y] = .tuple [a, b] → tx x = tx y := fun x y z => by
      simp only [PyData.tuple.injEq, List.cons.injEq, and_true] at z
      obtain ⟨rfl, rfl⟩ := z
      exact e
    rcases hcd.2 with m | m
    · rcases List.mem_append.mp m with m | m
      · exact h.all c d ⟨hcd.1, .inl m⟩
      · exact absurd hcd.1 (by rw [no c d (List.mem_singleton.mp m)]; exact List.lt_irrefl _)
    · rcases List.mem_append.mp m with m | m
      · exact h.all c d ⟨hcd.1, .inr m⟩
      · exact absurd hcd.1 (by rw [no d c (List.mem_singleton.mp m)]; exact List.lt_irrefl _)
theorem unlocked1 {a : Addr} {H G : Hp} {u : HO} (b : ButL [a] H G) (h : H a = some u) : Same H (upd G a u) := fun c o e => by
  by_cases z : c = a
  · rw [z, h] at e
    rw [z, upd_same]
    exact e
  · rw [upd_ne z]
    exact b c o e (by simp [z])
theorem keyToks_pair {a b c d : PyData} (fa : formedD a = true) (fb : formedD b = true) (fc : formedD c = true) (fd : formedD d = true) (h : PySem.W.keyToks (.tuple [a, b]) = PySem.W.keyToks (.tuple [c, d])) : a = c ∧ b = d := by
  have al : PySem.W.alike (.tuple [a, b]) (.tuple [c, d]) = true := by simp [PySem.W.alike, PySem.W.alikeAll, alike_formed a c fa fc, alike_formed b d fb fd]
  cases q : PyData.eqv (.tuple [a, b]) (.tuple [c, d]) with
  | true =>
    simp only [PyData.eqv, PyData.eqvAll, Bool.and_true, Bool.and_eq_true, eqv_formed a c fa fc, eqv_formed b d fb fd] at q
    exact q
  | false =>
    have z := (PySem.W.toks_eqv _ _ al).2 q [] [.inl 0]
    rw [h, List.append_nil] at z
    have z1 : PyProof.Rows.lexLt itemOrd (PySem.W.keyToks (.tuple [c, d])) (PySem.W.keyToks (.tuple [c, d])) = false := lex_irrefl _
    have z2 := PySem.W.lex_pre (PySem.W.keyToks (.tuple [c, d])) [] [.inl 0]
    rw [List.append_nil, z, z1] at z2
    exact absurd z2 (by decide)
theorem zip_dx {K : PySem.W.Frag} {H : Hp} : ∀ {vs : List V} {ds : List PyData}, DxAll K H vs ds → ∀ p, p ∈ vs.zip ds → Dx K H p.1 p.2
  | [], _, _, p, hp => by cases hp
  | v :: vs, ds, h, p, hp => by
    cases h with
    | cons a b =>
      rcases List.mem_cons.mp hp with rfl | hp
      · exact a
      · exact zip_dx b p hp
/-- sorted([kept[key] for key in kept]) -/
theorem sorted_pairs {K : PySem.W.Frag} {σ : L2.St} {i j : Nat} {H : Hp} {Q : VK} {fd : Addr} {kvs : List (Key × V)} {ds : List PyData} (hi : σ[i]? = some (some (.ref fd))) (hij : i ≠ j) (lj : j < σ.length) (e : H fd = some (.dK kvs)) (kp : KpD K H ds kvs) (C : Cns ds) (few : kvs.length ≤ 300) (dp : ∀ x, x ∈ sidesD ds → x.depth ≤ 58)
    (q : ∀ p us L H', Same H H' → H' p = some (.lst us) → DxAll K H' us L → Prs ds L → Q (.ref p) H') : tLockE (tLc (iKeys (tVar i)) (gName j) tYes (tDGet (tVar i) (tVar j)) [j]) σ H fun x H1 => rSortD K [x] H1 Q := by
  have hi2 : (σ.set j none)[i]? = some (some (.ref fd)) := by rw [List.getElem?_set_ne hij.symm]; exact hi
  refine ⟨fd, .dK kvs, e, trivial, fun od => ⟨_, hi, fd, od, rfl, .inl ⟨kvs, upd_same, fun D nD => ?_⟩⟩⟩
  have eL : (upd H fd (.frz od (.dK kvs))) fd = some (.frz od (.dK kvs)) := upd_same
  have bL : ButL [fd] H (upd H fd (.frz od (.dK kvs))) := ButL.refl.put (List.mem_singleton_self _)
  have tL : Tups H (upd H fd (.frz od (.dK kvs))) := fun b us h => by
    rw [upd_ne (ne_of h e (fun z => nomatch z))]
    exact h
  have kpL := kp.ts C tL
  generalize upd H fd (.frz od (.dK kvs)) = L at eL bL kpL nD ⊢
  have nfD : fd ≠ D := ne_of_none eL nD
  refine lc_keys (fun n G => Same L G ∧ ∃ vs M, G D = some (.lst vs) ∧ DxAll K L vs M ∧ vs = (kvs.take n).map Prod.snd ∧ M.length = vs.length ∧ ∀ (m : Nat) z, M[m]? = some z → ∃ a b, z = .tuple [a, b] ∧ Nz ds a b ∧ ∃ p, kvs[m]? = some p ∧ p.1 = .inr (keyT a b)) ⟨same_put nD, [], [], upd_same, .nil, rfl, rfl, fun m z h => by cases h⟩ (fun n G h => h.1 _ _ eL) ?_ ?_
  · rintro n k v G hk ⟨sG, vs, M, eD, dM, ev, lM, aM⟩
    have mem := List.mem_of_getElem? hk
    have lt : n < kvs.length := (List.getElem?_eq_some_iff.mp hk).1
    obtain ⟨a, b, ek, dv, nz⟩ := kpL.at_ _ mem
    have lv : vs.length = n := by
      rw [ev, List.length_map, List.length_take]
      omega
    refine ⟨by show ((σ.set j none).set j (some (kV k))).set j none = σ.set j none; rw [List.set_set, List.set_set], (iteT (B := False) ?_ : if true = true then _ else False)⟩
    refine ⟨_, (by show ((σ.set j none).set j (some (kV k)))[i]? = _; rw [List.getElem?_set_ne hij.symm]; exact hi2), _, (by show ((σ.set j none).set j (some (kV k)))[j]? = _; rw [List.getElem?_set_self (by rw [List.length_set]; exact lj)]), fd, v, rfl, .inl ⟨kvs, k, .inr ⟨od, sG _ _ eL⟩, rfl, (val_of_mem kpL.nd mem).symm⟩, vs, eD, small1000 (by omega), fun c o hc => ?_, vs ++ [v], M ++ [.tuple [a, b]], upd_same, DxAll.append dM (.cons dv .nil), ?_, by rw [List.length_append, List.length_append, lM]; rfl, fun m z hm => ?_⟩
    · rw [upd_ne (ne_of_none hc nD)]
      exact sG c o hc
    · rw [ev, List.take_add_one, hk, List.map_append]
      rfl
    · by_cases hmn : m < M.length
      · rw [List.getElem?_append_left hmn] at hm
        exact aM m z hm
      · rw [List.getElem?_append_right (by omega)] at hm
        have m0 : m = n := by
          have := (List.getElem?_eq_some_iff.mp hm).1
          rw [List.length_singleton] at this
          omega
        rw [m0, lM, lv, Nat.sub_self] at hm
        cases hm
        exact ⟨a, b, rfl, nz, _, by rw [m0]; exact hk, ek⟩
  · rintro G ⟨sG, vs, M, eD, dM, ev, lM, aM⟩
    rw [List.take_length] at ev
    refine ⟨sG _ _ eL, ?_⟩
    have s1 : Same H (upd G fd (.dK kvs)) := unlocked1 (bL.trans (ButL.of sG)) e
    have eD1 : (upd G fd (.dK kvs)) D = some (.lst vs) := by
      rw [upd_ne nfD.symm]
      exact eD
    have tG : Tups L (upd G fd (.dK kvs)) := fun b us h => by
      rw [upd_ne (ne_of h eL (fun z => nomatch z))]
      exact sG _ _ h
    have cM : ∀ z, z ∈ M → ∃ a b, z = .tuple [a, b] ∧ Nz ds a b := fun z hz => by
      obtain ⟨m, hm⟩ := List.getElem?_of_mem hz
      obtain ⟨a, b, e, n, _⟩ := aM m z hm
      exact ⟨a, b, e, n⟩
    have pM : pureAll M = true := by
      have : ∀ l : List PyData, (∀ z, z ∈ l → ∃ a b, z = .tuple [a, b] ∧ Nz ds a b) → pureAll l = true := fun l => by
        induction l with
        | nil => intro _; rfl
        | cons z l ih =>
          intro h
          obtain ⟨a, b, rfl, n⟩ := h z List.mem_cons_self
          obtain ⟨⟨fa, fb⟩, _⟩ := C.side n.2
          rw [pureAll, pure_two fa fb, ih fun y hy => h y (List.mem_cons_of_mem _ hy)]
          rfl
      exact this M cM
    have dM1 := DxAll.ts tG _ _ pM dM
    generalize upd G fd (.dK kvs) = H1 at s1 eD1 dM1 ⊢
    have lv : vs.length ≤ 300 := by
      rw [ev, List.length_map]
      exact few
    obtain ⟨its, ei⟩ : ∃ its : List Item, its = vs.zip M := ⟨_, rfl⟩
    have e1 : its.map Prod.fst = vs := by rw [ei, List.map_fst_zip (by omega)]
    have e2 : its.map Prod.snd = M := by rw [ei, List.map_snd_zip (by omega)]
    have each : ∀ p, p ∈ its → Dx K H1 p.1 p.2 := by
      rw [ei]
      exact zip_dx dM1
    have inM : ∀ p, p ∈ its → p.2 ∈ M := fun p hp => by rw [← e2]; exact List.mem_map.mpr ⟨p, hp, rfl⟩
    refine ⟨D, its, rfl, by rw [e1]; exact SqL.of eD1, fun p hp => ?_, ?_, ?_, ?_, fun p hp => ?_, fun p np => ?_⟩
    · obtain ⟨a, b, ez, n⟩ := cM _ (inM p hp)
      obtain ⟨⟨fa, fb⟩, _⟩ := C.side n.2
      refine Dx.dp ?_ (each p hp)
      rw [ez]
      simp [PyData.hasDict, PyData.hasDictAll, (lay_formed a fa).2, (lay_formed b fb).2]
    · rw [e2]
      intro d hd d' hd'
      obtain ⟨a, b, rfl, n⟩ := cM d hd
      obtain ⟨a', b', rfl, n'⟩ := cM d' hd'
      obtain ⟨⟨fa, fb⟩, _⟩ := C.side n.2
      obtain ⟨⟨fa', fb'⟩, _⟩ := C.side n'.2
      simp [PySem.W.alike, PySem.W.alikeAll, alike_formed a a' fa fa', alike_formed b b' fb fb']
    · rw [e2]
      exact .inl fun d hd => by
        obtain ⟨a, b, rfl, n⟩ := cM d hd
        exact ⟨_, _, rfl⟩
    · have := congrArg List.length e1
      rw [List.length_map] at this
      rw [this]
      exact Nat.le_of_lt (small1000 (by omega))
    · obtain ⟨a, b, ez, n⟩ := cM _ (inM p hp)
      obtain ⟨_, ma, mb⟩ := C.side n.2
      have d1 := dp a ma
      have d2 := dp b mb
      rw [ez]
      simp only [PyData.depth, PyData.depthAll]
      omega
    · have nd : (its.map fun b => PySem.W.keyToks b.2).Nodup := by
        have : (its.map fun b => PySem.W.keyToks b.2) = M.map PySem.W.keyToks := by rw [← e2, List.map_map]; rfl
        rw [this, List.Nodup, List.pairwise_map, List.pairwise_iff_getElem]
        intro m m' hm hm' lt he
        obtain ⟨a, b, ez, n, p1, hp1, k1⟩ := aM m _ (List.getElem?_eq_getElem hm)
        obtain ⟨c, d, ez', n', p2, hp2, k2⟩ := aM m' _ (List.getElem?_eq_getElem hm')
        obtain ⟨⟨fa, fb⟩, _⟩ := C.side n.2
        obtain ⟨⟨fc, fd2⟩, _⟩ := C.side n'.2
        rw [ez, ez'] at he
        obtain ⟨e3, e4⟩ := keyToks_pair fa fb fc fd2 he
        rw [e3, e4, ← k2] at k1
        have h1 := List.getElem?_eq_some_iff.mp hp1
        have h2 := List.getElem?_eq_some_iff.mp hp2
        have ndk := kpL.nd
        rw [List.Nodup, List.pairwise_map, List.pairwise_iff_getElem] at ndk
        have := ndk m m' h1.1 h2.1 lt
        rw [h1.2, h2.2] at this
        exact this k1
      have srt := sort_strict (k := Prod.snd) (l := its) nd
      have pz := List.mergeSort_perm its (PySem.W.dataLe false Prod.snd)
      refine q p _ ((its.mergeSort (PySem.W.dataLe false Prod.snd)).map Prod.snd) _ (s1.trans (same_put np)) upd_same ?_ ⟨fun z => ?_, ?_⟩
      · have each2 : ∀ l : List Item, (∀ p, p ∈ l → Dx K H1 p.1 p.2) → DxAll K H1 (l.map Prod.fst) (l.map Prod.snd) := fun l => by
          induction l with
          | nil => intro _; exact .nil
          | cons x l ih => intro h; exact .cons (h x List.mem_cons_self) (ih fun y hy => h y (List.mem_cons_of_mem _ hy))
        exact (each2 _ fun p hp => each p (pz.mem_iff.mp hp)).up (same_put np)
      · rw [(pz.map Prod.snd).mem_iff, e2]
        constructor
        · intro hz
          exact cM z hz
        · rintro ⟨a, b, rfl, n⟩
          obtain ⟨p1, hp1, k1⟩ := List.mem_map.mp (kpL.all a b n)
          obtain ⟨m, hm⟩ := List.getElem?_of_mem hp1
          have lt : m < M.length := by
            rw [lM, ev, List.length_map]
            exact (List.getElem?_eq_some_iff.mp hm).1
          obtain ⟨c, d, ez, n', p2, hp2, k2⟩ := aM m _ (List.getElem?_eq_getElem lt)
          rw [hm] at hp2
          cases hp2
          rw [k1] at k2
          injection k2 with k2
          obtain ⟨⟨fa, fb⟩, ma, mb⟩ := C.side n.2
          obtain ⟨⟨fc, fd2⟩, mc, md⟩ := C.side n'.2
          obtain ⟨e3, e4⟩ := keyT_inj fa fc k2
          rw [tx_inj fa fc (C.two ma mc) e3, tx_inj fb fd2 (C.two mb md) e4, ← ez]
          exact List.getElem_mem lt
      · rw [List.pairwise_map]
        exact srt
end K11
/-! _law_due, _law_drawn_fact. -/
namespace K11
open PySem PySem.Spec PyProof.Rows L2 Kx
section
variable {P : Program} {w : World} {K : PySem.W.Frag} {mg : Str → Option Value} {base : Heap}
abbrev rAddS : R2 := fun x y H Q => ∃ i j, x = .str i ∧ y = .str j ∧ i.length + j.length ≤ sizeLine ∧ Q (.str (i ++ j)) H
theorem tx_six {d : PyData} (f : formedD d = true) (dp : d.depth ≤ 6) : (tx d).length ≤ 20000 := by
  have z := sz_formed d 6 f dp
  have b6 : big 6 = 1457 := rfl
  have := tx_sz d f
  omega
/-- _law_text(pair[0]) + "=" + _law_text(pair[1]) -/
theorem key_rd {σ : L2.St} {i : Nat} {p : Addr} {u v : V} {a b : PyData} {H : Hp} {Q : VK} (hi : σ[i]? = some (some (.ref p))) (hp : H p = some (.tup [u, v])) (du : Dx K H u a) (dv : Dx K H v b) (fa : formedD a = true) (fb : formedD b = true) (da : a.depth ≤ 6) (db : b.depth ≤ 6)
    (q : ∀ H', Same H H' → Q (.str (keyT a b)) H') : tOp rAddS (tOp rAddS (tCall (spTxt K 6) [] E0 (tCons (tOp (rIxT K) (tVar i) (tC (.int 0))) tNil)) (tC (.str "="))) (tCall (spTxt K 6) [] E0 (tCons (tOp (rIxT K) (tVar i) (tC (.int 1))) tNil)) σ H Q := by
  have la := tx_six fa da
  have lb := tx_six fb db
  have sz : 50000 ≤ sizeLine := by decide
  have e1 : (tS (tx a) ++ "=").length = (tx a).length + 1 := by
    show (tS (tx a) ++ "=").cps.size = _
    rw [← Array.length_toList, str_app, List.length_append]
    simp [tS]
    rfl
  refine ⟨_, hi, p, _, 0, u, rfl, rfl, SqT.of hp, atI_nat (j := 0) rfl, u, a, rfl, du, fa, da, by omega, fun H1 s1 => ?_⟩
  refine ⟨_, _, rfl, rfl, by rw [tS_len]; show (tx a).length + 1 ≤ _; omega, ?_⟩
  refine ⟨_, hi, p, _, 1, v, rfl, rfl, SqT.of (s1 _ _ hp), atI_nat (j := 1) rfl, v, b, rfl, dv.up s1, fb, db, by omega, fun H2 s2 => ?_⟩
  refine ⟨_, _, rfl, rfl, by rw [tS_len, e1]; omega, ?_⟩
  rw [keyT_text]
  exact q H2 (s1.trans s2)
theorem ordP_tx {a b : PyData} (fa : formedD a = true) (fb : formedD b = true) (F : Func (rowsD a ++ rowsD b)) (ne : a ≠ b) : ∃ c d, ordP a b = .tuple [c, d] ∧ tx c < tx d ∧ ((c = a ∧ d = b) ∨ (c = b ∧ d = a)) := by
  unfold ordP
  by_cases h : ltR a b
  · rw [if_pos h]
    exact ⟨a, b, rfl, (tx_lt fa fb F).mpr h, .inl ⟨rfl, rfl⟩⟩
  · rw [if_neg h]
    refine ⟨b, a, rfl, (tx_lt fb fa F.swap).mpr ?_, .inr ⟨rfl, rfl⟩⟩
    rcases ltR_tri fa fb with z | z | z
    · exact absurd z h
    · exact absurd z ne
    · exact z
abbrev rTupOf (K : PySem.W.Frag) : List V → Hp → VK → Prop := fun xs H Q => ∃ p ys, xs = [V.ref p] ∧ ((SqL K H p ys ∧ ∀ l, H l = none → Q (.ref l) (upd H l (.tup ys))) ∨ (SqT K H p ys ∧ Q (.ref p) H))
/-- name = tuple(sorted([kept[key] for key in kept])) -/
theorem asg_sorted {σ : L2.St} {i j g : Nat} {H : Hp} {rest : TS} {D : L2.Ends} {fd : Addr} {kvs : List (Key × V)} {ds : List PyData} (hi : σ[i]? = some (some (.ref fd))) (hij : i ≠ j) (lj : j < σ.length) (e : H fd = some (.dK kvs)) (kp : KpD K H ds kvs) (C : Cns ds) (few : kvs.length ≤ 300) (dp : ∀ x, x ∈ sidesD ds → x.depth ≤ 58)
    (q : ∀ p us L H', Same H H' → H' p = some (.tup us) → DxAll K H' us L → Prs ds L → rest D (σ.set g (some (.ref p))) H') : tSeq (tAsg (tCB (rTupOf K) (tCons (tCB (rSortD K) (tCons (tLockE (tLc (iKeys (tVar i)) (gName j) tYes (tDGet (tVar i) (tVar j)) [j])) tNil)) tNil)) (gName g)) rest D σ H :=
  sorted_pairs (Q := fun y H2 => rTupOf K [y] H2 fun z H3 => rest D (σ.set g (some z)) H3) hi hij lj e kp C few dp fun p us L H1 s1 ep dL pL => ⟨p, us, rfl, .inl ⟨SqL.of ep, fun t nt => q t us L _ (s1.trans (same_put nt)) upd_same (dL.up (same_put nt)) pL⟩⟩
/-- what the law's own fact is -/
def DueD (ds : List PyData) (told r : PyData) : Prop := ∃ L, Prs ds L ∧ ((told = .none ∧ r = .tuple [.tuple L, .none]) ∨ ∃ a b, told = .tuple [a, b] ∧ r = .tuple [.tuple L, ordP a b])
def spDue (K : PySem.W.Frag) : Sp := fun vs H Q _ => ∃ (x : V) (a : Addr) (xs : List V) (ds : List PyData) (told : PyData), vs = [x, .ref a] ∧ Dx K H x told ∧ SqL K H a xs ∧ DxAll K H xs ds ∧ Cns ds ∧ ds.length ≤ 100 ∧ (∀ y, y ∈ sidesD ds → y.depth ≤ 6) ∧ (told = .none ∨ ∃ a b, told = .tuple [a, b] ∧ formedD a = true ∧ formedD b = true ∧ a.depth ≤ 6) ∧
  ∀ y r H', Same H H' → Dx K H' y r → DueD ds told r → Q y H'
theorem ok_due (T : Tx K mg) : FnOk P w K mg base CX0 8 T.a_law_due T.d_law_due ["told", "raw"] (spDue K) := by
  have nd := sc__law_due.nd
  have GP := ok_lp (P := P) (w := w) (base := base) T
  have GT := ok_txt (P := P) (w := w) (base := base) T 6
  refine T.f_law_due.ok sc__law_due (fun vs H Q E h => ?_) (fun cdv A outer s H vs Q E hr h => ?_)
  · obtain ⟨x, a, xs, ds, told, rfl, _⟩ := h
    rfl
  obtain ⟨x, a, xs, ds, told, rfl, hx, ha, hxs, C, few, dps, ht, q⟩ := h
  have hu := hu_of hr
  refine ⟨_, (pss_cons (ps_set (i := 2) nd rfl (.inr rfl) pe_dnewK)
      (pss_cons (ps_for PassesOwn.never rfl (pi_list (pv 1)) (pg_tup rfl (pgs_cons (pg_name (i := 3) nd rfl (.inl rfl)) (pgs_cons (pg_name (i := 4) nd rfl (.inl rfl)) pgs_nil))) (pss_one (ps_if (pt_cmpR (op_neF (room200 hr)) (pv 3) (pv 4) (nomark _)) (pss_cons (ps_set (i := 5) nd rfl (.inl rfl) (pe_call GP (hr.mono (by omega)) (by rfl) T.g_law_pair T.f_law_pair.kp T.n_law_pair .nil pass0 (pa_cons (pv 3) (pa_cons (pv 4) pa_nil))))
      (pss_one (ps_asg (pv 5) (pg_sub (pv 2) (pe_op op_add_str (pe_op op_add_str (pe_call GT (hr.mono (by omega)) (by rfl) T.g_law_text T.f_law_text.kp T.n_law_text .nil pass0 (pa_cons (pe_ix ix_tup (pv 5) pe_int (fun _ _ => rfl)) pa_nil)) pe_str) (pe_call GT (hr.mono (by omega)) (by rfl) T.g_law_text T.f_law_text.kp T.n_law_text .nil pass0 (pa_cons (pe_ix ix_tup (pv 5) pe_int (fun _ _ => rfl)) pa_nil))) (set_dict hu))))) pss_nil)))
      (pss_cons (ps_set (i := 6) nd rfl (.inl rfl) (pe_callTy call_tuple_of (by rfl) T.b_tuple (by decide +kernel) (pa_cons (pe_callB (cr_sortedD hr.units) (by rfl) T.b_sorted (by decide +kernel) (pa_cons (pe_lock (pe_lc (own := [("key", 7)]) (g := (gName 7)) (tt := tYes) (by rfl) nd (pi_keys (pv 2)) (blkOk_by (own := [("key", 7)]) (N := N__law_due) (sc := defScope s__law_due) (by decide +kernel)) (fun _ _ _ _ _ => pg_name (i := 7) nd rfl (.inl rfl)) (fun _ _ _ _ _ => pts_nil) (fun _ _ _ _ _ => (pe_dget hu (pv 2) (pv 7) (fun _ _ => rfl))))) pa_nil)) pa_nil)))
      (pss_one (ps_ret (pe_tup (pa_cons (pv 6) (pa_cons (pe_ifExp (pt_cmpR op_isN (pv 0) pe_non (nomark _)) pe_non (pe_call GP (hr.mono (by omega)) (by rfl) T.g_law_pair T.f_law_pair.kp T.n_law_pair .nil pass0 (pa_cons (pe_ix ix_tup (pv 0) pe_int (fun _ _ => rfl)) (pa_cons (pe_ix ix_tup (pv 0) pe_int (fun _ _ => rfl)) pa_nil)))) pa_nil)))))))), ?_⟩
  intro fd nfd
  have s1 : Same H (upd H fd (.dK [])) := same_put nfd
  have lx := hxs.length
  refine ⟨_, rfl, a, rfl, ⟨_, s1.seq ha⟩, for_list (K := K) (a := a) (xs := xs) (fun i σ G => Same H G ∧ ∃ kvs, G fd = some (.dK kvs) ∧ KpD K G (ds.take i) kvs ∧ kvs.length ≤ i ∧ ∃ y3 y4 y5, σ = [some x, some (.ref a), some (.ref fd), y3, y4, y5, none, none]) ⟨s1, [], upd_same, by rw [List.take_zero]; exact KpD.nil, Nat.le_refl _, none, none, none, rfl⟩ (fun i σ G _ h => h.1.seq ha) ?_ ?_⟩
  · rintro i y σ G hi ⟨sG, kvs, ef, kp, lk, y3, y4, y5, rfl⟩
    have lti : i < ds.length := by rw [← lx]; exact (List.getElem?_eq_some_iff.mp hi).1
    have gd := List.getElem?_eq_getElem lti
    obtain ⟨v2, hv2, dv⟩ := hxs.get gd
    rw [hi] at hv2
    cases hv2
    have mi := List.getElem_mem lti
    obtain ⟨ta, tb, eab, wa, wb⟩ := C.c _ mi
    rw [eab] at dv gd mi
    have ma : ta ∈ sidesD ds := List.mem_flatMap.mpr ⟨_, mi, by simp [sidesOf]⟩
    have mb : tb ∈ sidesD ds := List.mem_flatMap.mpr ⟨_, mi, by simp [sidesOf]⟩
    have et : ds.take (i + 1) = ds.take i ++ [.tuple [ta, tb]] := by rw [List.take_add_one, gd]; rfl
    obtain ⟨q0, u, v3, rfl, hq0, du, dv3⟩ := dx_couple (dv.up sG)
    refine ⟨q0, _, rfl, SqT.of hq0, rfl, _, _, rfl, _, _, rfl, rfl, ?_⟩
    refine ⟨_, rfl, _, rfl, ta, tb, du.dp (lay_formed ta wa.f).2, dv3.dp (lay_formed tb wb.f).2, (lay_formed ta wa.f).1, (lay_formed tb wb.f).1, by have := dps ta ma; omega, _, rfl, ?_⟩
    cases he : PyData.eqv ta tb with
    | true =>
      have e : ta = tb := (eqv_formed ta tb wa.f wb.f).mp he
      refine iteF ⟨sG, kvs, ef, ?_, Nat.le_succ_of_le lk, _, _, _, rfl⟩
      rw [et]
      exact kp.skip (by rw [e])
    | false =>
      have ne : ta ≠ tb := fun z => by
        rw [(eqv_formed ta tb wa.f wb.f).mpr z] at he
        cases he
      refine iteT ⟨_, rfl, _, rfl, u, v3, ta, tb, rfl, du, dv3, wa.f, wb.f, by have := dps ta ma; omega, fun z G1 t1 dz => ?_⟩
      obtain ⟨c, d, ec, lcd, ecd⟩ := ordP_tx wa.f wb.f (C.two ma mb) ne
      rw [ec] at dz
      obtain ⟨p5, u5, v5, rfl, hp5, du5, dv5⟩ := dx_couple dz
      have fcd : (formedD c = true ∧ c.depth ≤ 6) ∧ formedD d = true ∧ d.depth ≤ 6 := by
        rcases ecd with ⟨rfl, rfl⟩ | ⟨rfl, rfl⟩
        · exact ⟨⟨wa.f, dps _ ma⟩, wb.f, dps _ mb⟩
        · exact ⟨⟨wb.f, dps _ mb⟩, wa.f, dps _ ma⟩
      refine ⟨_, rfl, _, rfl, key_rd rfl hp5 du5 dv5 fcd.1.1 fcd.2.1 fcd.1.2 fcd.2.2 fun G2 t2 => ?_⟩
      have ef2 := t2 _ _ (t1 _ _ ef)
      have sG2 := sG.trans (t1.trans t2)
      have tf : Tups G2 (upd G2 fd (.dK (putK kvs (.inr (keyT c d)) (.ref p5)))) := fun b us hb => by
        rw [upd_ne (ne_of hb ef2 (fun e => nomatch e))]
        exact hb
      refine ⟨fd, _, rfl, DPut.k (k := .inr (keyT c d)) ef2 (small1000 (by omega)), fun b o hb => ?_, _, upd_same, ?_, ?_, _, _, _, rfl⟩
      · rw [upd_ne (ne_of_none hb nfd)]
        exact sG2 _ _ hb
      · rw [et]
        refine KpD.put (kp.ts (C.take i) ((Tups.of (t1.trans t2)).trans tf)) (Dx.ts tf _ _ (pure_two fcd.1.1 fcd.2.1) (dz.up t2)) lcd ?_
        rcases ecd with ⟨rfl, rfl⟩ | ⟨rfl, rfl⟩
        · exact .inl rfl
        · exact .inr rfl
      · have := length_putK kvs (.inr (keyT c d) : Key) (.ref p5)
        omega
  · rintro σ G ⟨sG, kvs, ef, kp, lk, y3, y4, y5, rfl⟩
    rw [lx, List.take_length] at kp
    refine asg_sorted (K := K) (i := 2) (j := 7) rfl (by decide) (by show 7 < 8; decide) ef kp C (by omega) (fun y hy => by have := dps y hy; omega) fun t us L H2 s2 eT dL pL => ?_
    have sA := sG.trans s2
    refine ⟨_, rfl, _, rfl, rfl, _, rfl, ?_⟩
    rcases ht with rfl | ⟨ta, tb, rfl, fa, fb, dpa⟩
    · cases hx
      refine iteT ⟨by show 2 ≤ sizeLine; decide, fun p2 np2 => ?_⟩
      have s9 := same_put (o := .tup [.ref t, .non]) np2
      exact q _ _ _ (sA.trans s9) (.tup upd_same (.cons (.tup (s9 _ _ eT) (dL.up s9)) (.cons .non .nil))) ⟨L, pL, .inl ⟨rfl, rfl⟩⟩
    · obtain ⟨q0, u, v3, rfl, hq0, du, dv3⟩ := dx_couple hx
      refine iteF ⟨_, rfl, q0, _, 0, u, rfl, rfl, SqT.of (sA _ _ hq0), atI_nat (j := 0) rfl, _, rfl, q0, _, 1, v3, rfl, rfl, SqT.of (sA _ _ hq0), atI_nat (j := 1) rfl, u, v3, ta, tb, rfl, du.up sA, dv3.up sA, fa, fb, by omega, fun z H3 s3 dz => ⟨by show 2 ≤ sizeLine; decide, fun p2 np2 => ?_⟩⟩
      have s9 := same_put (o := .tup [.ref t, z]) np2
      exact q _ _ _ (sA.trans (s3.trans s9)) (.tup upd_same (.cons (.tup (s9 _ _ (s3 _ _ eT)) (dL.up (s3.trans s9))) (.cons (dz.up s9) .nil))) ⟨L, pL, .inr ⟨ta, tb, rfl, rfl⟩⟩
end
end K11
/-! _law_drawn_fact. -/
namespace K11
open PySem PySem.Spec PyProof.Rows L2 Kx
theorem rows_in {rs : List NK} {n : Nat} {a b : PyData} (ha : Tm rs n a) (hb : Tm rs n b) (F : Func rs) : Func (rowsD a ++ rowsD b) := F.sub fun p hp => (List.mem_append.mp hp).elim (ha.rw p) (hb.rw p)
theorem Pr.tx {rs : List NK} {n : Nat} {a b : PyData} (h : Pr rs n (.tuple [a, b])) (F : Func rs) : tx a < tx b ∧ Tm rs n a ∧ Tm rs n b := by
  obtain ⟨a', b', e, ha, hb, l⟩ := h.ex
  simp only [PyData.tuple.injEq, List.cons.injEq, and_true] at e
  obtain ⟨rfl, rfl⟩ := e
  exact ⟨(tx_lt ha.fm hb.fm (rows_in ha hb F)).mpr l, ha, hb⟩
theorem wr_tm {rs : List NK} {n : Nat} {d : PyData} (h : Tm rs n d) (l : n ≤ 6) : Wr d := by
  have b6 : big 6 = 1457 := rfl
  exact wr_of h.fm (by have := sz_formed d 6 h.fm (Nat.le_trans h.dp l); omega)
/-- couples over rs -/
def Cp (rs : List NK) (n : Nat) (z : PyData) : Prop := ∃ a b, z = .tuple [a, b] ∧ Tm rs n a ∧ Tm rs n b
theorem Pr.cp {rs : List NK} {n : Nat} {z : PyData} (h : Pr rs n z) : Cp rs n z := by
  obtain ⟨a, b, e, ha, hb, _⟩ := h.ex
  exact ⟨a, b, e, ha, hb⟩
theorem cp_side {rs : List NK} {n : Nat} {ds : List PyData} (h : ∀ z, z ∈ ds → Cp rs n z) : ∀ x, x ∈ sidesD ds → Tm rs n x := fun x hx => by
  obtain ⟨d, hd, hx⟩ := List.mem_flatMap.mp hx
  obtain ⟨a, b, rfl, ha, hb⟩ := h d hd
  simp only [sidesOf, List.mem_cons, List.not_mem_nil, or_false] at hx
  rcases hx with rfl | rfl
  · exact ha
  · exact hb
theorem cp_cns {rs : List NK} {n : Nat} {ds : List PyData} (h : ∀ z, z ∈ ds → Cp rs n z) (l : n ≤ 6) (F : Func rs) : Cns ds := by
  refine ⟨fun d hd => ?_, F.sub fun p hp => ?_⟩
  · obtain ⟨a, b, e, ha, hb⟩ := h d hd
    exact ⟨a, b, e, wr_tm ha l, wr_tm hb l⟩
  · obtain ⟨x, hx, hp⟩ := rows_mem hp
    exact (cp_side h x hx).rw p hp
/-- a fact over rs -/
structure Fa (rs : List NK) (n m : Nat) (L : List PyData) (c : PyData) : Prop where
  ps : ∀ z, z ∈ L → Pr rs n z
  srt : L.Pairwise ltR
  c : c = .none ∨ Pr rs n c
  len : L.length ≤ m
theorem Fa.all {rs : List NK} {n m : Nat} {L : List PyData} {c : PyData} (h : Fa rs n m L c) : ∀ z, z ∈ L ++ endOf c → Pr rs n z := fun z hz => by
  rcases List.mem_append.mp hz with hz | hz
  · exact h.ps z hz
  · rcases h.c with rfl | hc
    · cases hz
    · obtain ⟨a, b, rfl, _⟩ := hc.ex
      have hz : z ∈ [PyData.tuple [a, b]] := hz
      rw [List.mem_singleton.mp hz]
      exact hc
theorem couples_of {ds : List PyData} (C : Cns ds) : couplesD ds = true := by
  have h1 : ds.all coupleD = true := List.all_eq_true.mpr fun d hd => by
    obtain ⟨a, b, rfl, _⟩ := C.c d hd
    rfl
  have h2 : formedAll (sidesD ds) = true := by
    have : ∀ l : List PyData, (∀ x, x ∈ l → formedD x = true) → formedAll l = true := fun l => by
      induction l with
      | nil => intro _; rfl
      | cons x l ih => intro h; rw [formedAll, h x List.mem_cons_self, ih fun y hy => h y (List.mem_cons_of_mem _ hy)]; rfl
    refine this _ fun x hx => ?_
    obtain ⟨d, hd, hx⟩ := List.mem_flatMap.mp hx
    obtain ⟨a, b, rfl, wa, wb⟩ := C.c d hd
    simp only [sidesOf, List.mem_cons, List.not_mem_nil, or_false] at hx
    rcases hx with rfl | rfl
    · exact wa.f
    · exact wb.f
  simp [couplesD, jointD, h1, h2, C.f]
theorem keyC_lt {ds : List PyData} (C : Cns ds) {a b c d : PyData} (h1 : Nz ds a b) (h2 : Nz ds c d) : ltR (keyC (.tuple [a, b])) (keyC (.tuple [c, d])) ↔ ltR (.tuple [a, b]) (.tuple [c, d]) := key_lt C h1 h2
theorem chain_of : ∀ {ks : List PyData}, ks.Pairwise ltR → chainD ks = true
  | [], _ => rfl
  | [x], _ => rfl
  | x :: y :: ks, h => by
    rw [List.pairwise_cons] at h
    have ih := chain_of h.2
    have e : chainD (x :: y :: ks) = (PySem.W.dataLt x y && chainD (y :: ks)) := by
      simp [chainD]
    rw [e, ih, Bool.and_true]
    exact h.1 y List.mem_cons_self
theorem Fa.fact {rs : List NK} {n m : Nat} {L : List PyData} {c : PyData} (h : Fa rs n m L c) (l : n ≤ 6) (F : Func rs) : factD (.tuple [.tuple L, c]) = true := by
  have C := cp_cns (fun z hz => (h.all z hz).cp) l F
  have ord : (L ++ endOf c).all ordC = true := List.all_eq_true.mpr fun z hz => by
    obtain ⟨a, b, rfl, ha, hb, lt⟩ := (h.all z hz).ex
    exact decide_eq_true ((tx_lt ha.fm hb.fm (rows_in ha hb F)).mpr lt)
  have ch : chainD (L.map keyC) = true := by
    refine chain_of ?_
    rw [List.pairwise_map]
    refine List.Pairwise.imp_of_mem (fun {x y} hx hy lt => ?_) h.srt
    obtain ⟨a, b, rfl, ha, hb, l1⟩ := (h.ps x hx).ex
    obtain ⟨c', d, rfl, hc, hd, l2⟩ := (h.ps y hy).ex
    exact (keyC_lt C ⟨(tx_lt ha.fm hb.fm (rows_in ha hb F)).mpr l1, .inl (List.mem_append_left _ hx)⟩ ⟨(tx_lt hc.fm hd.fm (rows_in hc hd F)).mpr l2, .inl (List.mem_append_left _ hy)⟩).mpr lt
  show (couplesD (L ++ endOf c) && ((L ++ endOf c).all ordC && chainD (L.map keyC))) = true
  rw [couples_of C, ord, ch]
  rfl
mutual
theorem short_formed : ∀ (d : PyData), formedD d = true → shortD d = true
  | .tuple (a :: ds), h => by
    obtain ⟨x, ds', e, _, hx, hf⟩ := formed_shape h
    injection e with e
    injection e with e1 e2
    subst e1 e2
    have : x.length ≤ 1000 := by
      simp only [isNm, Bool.and_eq_true, decide_eq_true_eq] at hx
      omega
    simp [shortD, shortAll, this, short_formedAll ds hf]
  | .tuple [], h => by cases h
  | .none, h => by cases h
  | .bool _, h => by cases h
  | .int _, h => by cases h
  | .str _, h => by cases h
  | .list _, h => by cases h
  | .dict _, h => by cases h
theorem short_formedAll : ∀ (ds : List PyData), formedAll ds = true → shortAll ds = true
  | [], _ => rfl
  | d :: ds, h => by
    rw [formedAll, Bool.and_eq_true] at h
    rw [shortAll, short_formed d h.1, short_formedAll ds h.2]
    rfl
end
theorem cp_size {rs : List NK} {n : Nat} {ds : List PyData} (h : ∀ z, z ∈ ds → Cp rs n z) : shortAll ds = true ∧ szAll ds ≤ ds.length * (2 * big n + 1) := by
  induction ds with
  | nil => exact ⟨rfl, by simp [szAll]⟩
  | cons z ds ih =>
    obtain ⟨i1, i2⟩ := ih fun y hy => h y (List.mem_cons_of_mem _ hy)
    obtain ⟨a, b, rfl, ha, hb⟩ := h z List.mem_cons_self
    have za := sz_formed a n ha.fm ha.dp
    have zb := sz_formed b n hb.fm hb.dp
    refine ⟨by simp [shortAll, shortD, short_formed a ha.fm, short_formed b hb.fm, i1], ?_⟩
    rw [szAll, List.length_cons, Nat.add_mul, Nat.one_mul]
    simp only [szD, szAll]
    omega
theorem Fa.fz {rs : List NK} {n m : Nat} {L : List PyData} {c : PyData} {K : PySem.W.Frag} {H : Hp} {x : V} (h : Fa rs n m L c) (l : n ≤ 6) (sz : (m + 1) * (2 * big n + 1) ≤ 9000) (hm : m ≤ 100) (dx : Dx K H x (.tuple [.tuple L, c])) : Fz K H x (.tuple [.tuple L, c]) := by
  obtain ⟨s1, z1⟩ := cp_size fun z hz => (h.all z hz).cp
  have le : (endOf c).length ≤ 1 := by cases c <;> simp [endOf]
  have z2 : (L ++ endOf c).length * (2 * big n + 1) ≤ (m + 1) * (2 * big n + 1) := Nat.mul_le_mul_right _ (by rw [List.length_append]; have := h.len; omega)
  rw [szAll_append] at z1
  rw [shortAll_append, Bool.and_eq_true] at s1
  have ec : szD c ≤ szAll (endOf c) + 1 ∧ shortD c = true := by
    rcases h.c with rfl | hc
    · exact ⟨by simp [szD, endOf, szAll], rfl⟩
    · obtain ⟨a, b, rfl, _⟩ := hc.ex
      have this : shortAll [PyData.tuple [a, b]] = true := s1.2
      simp only [shortAll, Bool.and_true] at this
      exact ⟨by show _ ≤ szAll [PyData.tuple [a, b]] + 1; simp [szAll], this⟩
  refine ⟨dx, ?_, ?_, fun ps e he => ?_⟩
  · simp [shortD, shortAll, s1.1, ec.2]
  · simp only [szD, szAll]
    omega
  · simp only [PyData.tuple.injEq, List.cons.injEq, and_true] at he
    rw [← he.1]
    have := h.len
    omega
theorem cp_pure {rs : List NK} {n : Nat} {ds : List PyData} (h : ∀ z, z ∈ ds → Cp rs n z) : pureAll ds = true := by
  induction ds with
  | nil => rfl
  | cons z ds ih =>
    obtain ⟨a, b, rfl, ha, hb⟩ := h z List.mem_cons_self
    rw [pureAll, pure_two ha.fm hb.fm, ih fun y hy => h y (List.mem_cons_of_mem _ hy)]
    rfl
theorem lay_cp {rs : List NK} {n : Nat} {ds : List PyData} (h : ∀ z, z ∈ ds → Cp rs n z) : PyData.canLayAll0 ds = true ∧ PyData.hasDictAll ds = false ∧ PyData.depthAll ds ≤ n + 1 := by
  induction ds with
  | nil => exact ⟨rfl, rfl, by simp [PyData.depthAll]⟩
  | cons z ds ih =>
    obtain ⟨i1, i2, i3⟩ := ih fun y hy => h y (List.mem_cons_of_mem _ hy)
    obtain ⟨a, b, rfl, ha, hb⟩ := h z List.mem_cons_self
    obtain ⟨a1, a2⟩ := lay_formed a ha.fm
    obtain ⟨b1, b2⟩ := lay_formed b hb.fm
    have da := ha.dp
    have db := hb.dp
    refine ⟨by simp [PyData.canLayAll0, PyData.canLay0, a1, b1, i1], by simp [PyData.hasDictAll, PyData.hasDict, a2, b2, i2], ?_⟩
    simp only [PyData.depthAll, PyData.depth]
    omega
end K11
/-! _law_cut_due. -/
namespace K11
open PySem PySem.Spec PyProof.Rows L2 Kx
theorem pr_eqv {rs : List NK} {n : Nat} {x y : PyData} (hx : Pr rs n x) (hy : Pr rs n y) : PyData.eqv x y = true ↔ x = y := by
  obtain ⟨a, b, rfl, ha, hb, _⟩ := hx.ex
  obtain ⟨c, d, rfl, hc, hd, _⟩ := hy.ex
  simp only [PyData.eqv, PyData.eqvAll, Bool.and_true, Bool.and_eq_true, eqv_formed a c ha.fm hc.fm, eqv_formed b d hb.fm hd.fm, PyData.tuple.injEq, List.cons.injEq, and_true]
theorem pr_lay {rs : List NK} {n : Nat} {z : PyData} (h : Pr rs n z) : z.canLay0 = true ∧ z.hasDict = false ∧ z.depth ≤ n + 1 ∧ pureD z = true := by
  obtain ⟨a, b, rfl, ha, hb, _⟩ := h.ex
  obtain ⟨y1, y2, y3⟩ := lay_cp (ds := [.tuple [a, b]]) fun z hz => by rw [List.mem_singleton.mp hz]; exact ⟨a, b, rfl, ha, hb⟩
  simp only [PyData.canLayAll0, PyData.hasDictAll, PyData.depthAll, Bool.and_true, Bool.or_false] at y1 y2 y3
  exact ⟨y1, y2, by omega, pure_two ha.fm hb.fm⟩
theorem ordP_pr {rs : List NK} {n : Nat} {a b : PyData} (h : Pr rs n (.tuple [a, b])) : ordP a b = .tuple [a, b] := by
  obtain ⟨a', b', e, _, _, l⟩ := h.ex
  simp only [PyData.tuple.injEq, List.cons.injEq, and_true] at e
  obtain ⟨rfl, rfl⟩ := e
  rw [ordP, if_pos l]
/-- of pairs and a pair, the law's own fact -/
theorem due_fa {rs : List NK} {n : Nat} {ds : List PyData} {told r : PyData} (h : DueD ds told r) (F : Func rs) (pr : ∀ z, z ∈ ds → Pr rs n z) (pt : told = .none ∨ Pr rs n told) : ∃ L, Prs ds L ∧ r = .tuple [.tuple L, told] ∧ Fa rs n ds.length L told := by
  obtain ⟨L, p, h⟩ := h
  have pL : ∀ z, z ∈ L → Pr rs n z := fun z hz => by
    obtain ⟨c, e, rfl, l, m⟩ := (p.mem z).mp hz
    rcases m with m | m
    · exact pr _ m
    · exact absurd (List.lt_trans l ((pr _ m).tx F).1) (List.lt_irrefl _)
  refine ⟨L, p, ?_, pL, p.srt, pt, p.len⟩
  rcases h with ⟨e1, e2⟩ | ⟨a, b, e1, e2⟩
  · rw [e2, e1]
  · rcases pt with z | z
    · rw [e1] at z; cases z
    · rw [e1] at z ⊢
      rw [e2, ordP_pr z]
theorem pr_told {rs : List NK} {n : Nat} {c : PyData} (h : c = .none ∨ Pr rs n c) (l : n ≤ 6) : c = .none ∨ ∃ a b, c = .tuple [a, b] ∧ formedD a = true ∧ formedD b = true ∧ a.depth ≤ 6 := h.imp id fun h => by
  obtain ⟨a, b, e, ha, hb, _⟩ := h.ex
  exact ⟨a, b, e, ha.fm, hb.fm, Nat.le_trans ha.dp l⟩
theorem fa_pure {rs : List NK} {n m : Nat} {L : List PyData} {c : PyData} (h : Fa rs n m L c) : pureD (.tuple [.tuple L, c]) = true := by
  have p1 := cp_pure fun z hz => (h.ps z hz).cp
  have p2 : pureD c = true := by
    rcases h.c with rfl | hc
    · rfl
    · obtain ⟨a, b, rfl, ha, hb, _⟩ := hc.ex
      exact pure_two ha.fm hb.fm
  simp [pureD, pureAll, p1, p2]
theorem Fa.le {rs : List NK} {n m k : Nat} {L : List PyData} {c : PyData} (h : Fa rs n m L c) (l : m ≤ k) : Fa rs n k L c := ⟨h.ps, h.srt, h.c, Nat.le_trans h.len l⟩
theorem prs_fa {rs : List NK} {n : Nat} {ds : List PyData} {L : List PyData} {c : PyData} (p : Prs ds L) (F : Func rs) (pr : ∀ z, z ∈ ds → Pr rs n z) (pc : c = .none ∨ Pr rs n c) : Fa rs n ds.length L c := by
  have pL : ∀ z, z ∈ L → Pr rs n z := fun z hz => by
    obtain ⟨c, e, rfl, l, m⟩ := (p.mem z).mp hz
    rcases m with m | m
    · exact pr _ m
    · exact absurd (List.lt_trans l ((pr _ m).tx F).1) (List.lt_irrefl _)
  exact ⟨pL, p.srt, pc, p.len⟩
structure Ly (d : PyData) : Prop where
  lay : d.canLay0 = true
  hd : d.hasDict = false
  dp : d.depth ≤ 64
  pu : pureD d = true
theorem fa_ly {rs : List NK} {n m : Nat} {L : List PyData} {c : PyData} (h : Fa rs n m L c) (l : n ≤ 6) : Ly (.tuple [.tuple L, c]) := by
  obtain ⟨y1, y2, y3⟩ := lay_cp fun z hz => (h.ps z hz).cp
  have e : c.canLay0 = true ∧ c.hasDict = false ∧ c.depth ≤ n + 1 := by
    rcases h.c with rfl | pe
    · exact ⟨rfl, rfl, by simp [PyData.depth]⟩
    · obtain ⟨a1, a2, a3, _⟩ := pr_lay pe
      exact ⟨a1, a2, a3⟩
  refine ⟨by simp [PyData.canLay0, PyData.canLayAll0, y1, e.1], by simp [PyData.hasDict, PyData.hasDictAll, y2, e.2.1], ?_, fa_pure h⟩
  have := e.2.2
  simp only [PyData.depth, PyData.depthAll]
  omega
end K11
/-! The parts of a term, listed, each as data. -/
namespace K11
open PySem PySem.Spec PyProof.Rows L2 Kx
mutual
/-- all parts, itself last -/
def belD : PyData → List PyData
  | .tuple (x :: ds) => belAll ds ++ [.tuple (x :: ds)]
  | d => [d]
def belAll : List PyData → List PyData
  | [] => []
  | d :: ds => belD d ++ belAll ds
end
theorem belAll_app : ∀ (l m : List PyData), belAll (l ++ m) = belAll l ++ belAll m
  | [], m => by simp [belAll]
  | d :: l, m => by simp [belAll, belAll_app l m]
mutual
theorem bel_perm : ∀ d : PyData, (belD d).Perm (preD d)
  | .tuple (x :: ds) => by
    rw [belD, preD]
    exact (List.perm_append_singleton _ _).trans ((bel_perms ds).cons _)
  | .tuple [] => List.Perm.refl _
  | .none => List.Perm.refl _
  | .bool _ => List.Perm.refl _
  | .int _ => List.Perm.refl _
  | .str _ => List.Perm.refl _
  | .list _ => List.Perm.refl _
  | .dict _ => List.Perm.refl _
theorem bel_perms : ∀ ds : List PyData, (belAll ds).Perm (preAll ds)
  | [] => List.Perm.refl _
  | d :: ds => by
    rw [belAll, preAll]
    exact (bel_perm d).append (bel_perms ds)
end
theorem bel_len (d : PyData) : (belD d).length = (preD d).length := (bel_perm d).length_eq
theorem belAll_take {ds : List PyData} {i : Nat} {d : PyData} (h : ds[i]? = some d) : belAll (ds.take (i + 1)) = belAll (ds.take i) ++ belD d := by
  rw [List.take_add_one, h, belAll_app]
  simp [belAll]
theorem belAll_le (ds : List PyData) (i : Nat) : (belAll (ds.take i)).length ≤ (belAll ds).length := by
  have z : belAll (ds.take i ++ ds.drop i) = belAll ds := by rw [List.take_append_drop]
  rw [belAll_app] at z
  rw [← z, List.length_append]
  omega
mutual
theorem bel_formed : ∀ d : PyData, formedD d = true → ∀ e, e ∈ belD d → formedD e = true
  | .tuple (x :: ds), h, e, he => by
    have h' := h
    rw [formedD, Bool.and_eq_true] at h
    rw [belD] at he
    rcases List.mem_append.mp he with he | he
    · exact bel_formeds ds h.2 e he
    · rw [List.mem_singleton.mp he]
      exact h'
  | .tuple [], h, _, _ => by cases h
  | .none, h, _, _ => by cases h
  | .bool _, h, _, _ => by cases h
  | .int _, h, _, _ => by cases h
  | .str _, h, _, _ => by cases h
  | .list _, h, _, _ => by cases h
  | .dict _, h, _, _ => by cases h
theorem bel_formeds : ∀ ds : List PyData, formedAll ds = true → ∀ e, e ∈ belAll ds → formedD e = true
  | [], _, e, he => by cases he
  | d :: ds, h, e, he => by
    rw [formedAll, Bool.and_eq_true] at h
    rw [belAll] at he
    rcases List.mem_append.mp he with he | he
    · exact bel_formed d h.1 e he
    · exact bel_formeds ds h.2 e he
end
/-- a part's name and how many places it has -/
def rowD : PyData → NK
  | .tuple (y :: ds) => (headD y, ds.length)
  | _ => (Str.empty, 0)
mutual
theorem bel_rows : ∀ d : PyData, formedD d = true → ((belD d).map rowD).Perm (rowsD d)
  | .tuple (x :: ds), h => by
    rw [formedD, Bool.and_eq_true] at h
    rw [belD, rowsD, List.map_append]
    exact (List.perm_append_singleton _ _).trans ((bel_rowss ds h.2).cons _)
  | .tuple [], h => by cases h
  | .none, h => by cases h
  | .bool _, h => by cases h
  | .int _, h => by cases h
  | .str _, h => by cases h
  | .list _, h => by cases h
  | .dict _, h => by cases h
theorem bel_rowss : ∀ ds : List PyData, formedAll ds = true → ((belAll ds).map rowD).Perm (rowsAll ds)
  | [], _ => List.Perm.refl _
  | d :: ds, h => by
    rw [formedAll, Bool.and_eq_true] at h
    rw [belAll, rowsAll, List.map_append]
    exact (bel_rows d h.1).append (bel_rowss ds h.2)
end
section
variable {P : Program} {w : World} {K : PySem.W.Frag} {mg : Str → Option Value} {base : Heap}
def spBl (K : PySem.W.Frag) (n : Nat) : Sp := fun vs H Q _ => ∃ (x : V) (d : PyData), vs = [x] ∧ Dx K H x d ∧ formedD d = true ∧ d.depth ≤ n ∧ (preD d).length ≤ 5000 ∧
  ∀ p H' ys, Same H H' → H p = none → H' p = some (.lst ys) → DxAll K H' ys (belD d) → Q (.ref p) H'
theorem ok_bl (T : Tx K mg) : ∀ n, FnOk P w K mg base CX0 (n + 1) T.a_law_below T.d_law_below ["term"] (spBl K n)
  | 0 => by
    refine T.f_law_below.ok sc__law_below (fun vs H Q E h => ?_) (fun cdv A outer s H vs Q E hr h => ?_)
    · obtain ⟨x, d, rfl, _⟩ := h
      rfl
    · exfalso
      obtain ⟨x, d, rfl, hx, hf, hd, _⟩ := h
      obtain ⟨z, ds, rfl, _⟩ := formed_shape hf
      simp [PyData.depth] at hd
  | n + 1 => by
    have nd := sc__law_below.nd
    have G := ok_bl T n
    refine T.f_law_below.ok sc__law_below (fun vs H Q E h => ?_) (fun cdv A outer s H vs Q E hr h => ?_)
    · obtain ⟨x, d, rfl, _⟩ := h
      rfl
    · obtain ⟨x, d, rfl, hx, hf, hd, hl, q⟩ := h
      obtain ⟨nm, ds, rfl, l3, hnm, hfa⟩ := formed_shape hf
      have hx0 := hx
      cases hx with
      | @tup a xs _ ha hs =>
      cases hs with
      | @cons v0 ws _ _ h0 hw =>
      cases h0
      have lw := hw.length
      have hdd : PyData.depthAll ds ≤ n := by
        simp only [PyData.depth, PyData.depthAll] at hd
        omega
      have lr : (preD (.tuple (.str nm :: ds))).length = (belAll ds).length + 1 := by
        rw [preD, List.length_cons, (bel_perms ds).length_eq]
      rw [lr] at hl
      refine ⟨_, (pss_cons (ps_set (i := 1) nd rfl (.inl rfl) (pe_lst pa_nil))
      (pss_cons (ps_for PassesOwn.never rfl (pi_tup (pe_slice sl_tupA (pv 0) (po_some pe_int) po_none)) (pg_name (i := 2) nd rfl (.inl rfl)) (pss_one (ps_set (i := 1) nd rfl (.inl rfl) (pe_op op_cat (pv 1) (pe_call G (hr.mono (by omega)) (by rfl) T.g_law_below T.f_law_below.kp T.n_law_below .nil pass0 (pa_cons (pv 2) pa_nil))))))
      (pss_one (ps_ret (pe_op op_cat (pv 1) (pe_lst (pa_cons (pv 0) pa_nil))))))), ?_⟩
      refine ⟨Nat.zero_le _, fun f nf => ?_⟩
      have s1 := same_put (o := .lst []) nf
      refine ⟨_, rfl, 1, rfl, ?_⟩
      dsimp only [tNoPart]
      refine sl_from (S := []) (i := 1) ((hx0.up s1).up offs_nil) olds_nil fun y H2 sl dy => ?_
      have dy := dy.up OffS.all
      rw [List.drop_one, List.tail_cons] at dy
      cases dy with
      | @tup c us _ hc hus =>
      have lus := hus.length
      have s2 := s1.trans sl
      refine ⟨c, rfl, ⟨_, SqT.of hc⟩, ?_⟩
      refine for_tup (K := K) (a := c) (xs := us) (D := { nx := tRet (tOp rCat (tVar 1) (tLst (tCons (tVar 0) tNil))) { nx := fun _ H' => Q .non H', rt := Q }, rt := Q }) (fun i σ H3 => Same H2 H3 ∧ ∃ (g : Addr) (ys : List V) (y : Option V), σ = [some (.ref a), some (.ref g), y] ∧ H3 g = some (.lst ys) ∧ DxAll K H3 ys (belAll (ds.take i)))
        ⟨Same.refl _, f, [], none, rfl, sl _ _ upd_same, by simp [belAll]; exact .nil⟩ (fun i σ H3 _ h => SqT.of (h.1 _ _ hc)) ?_ ?_
      · rintro i y σ H3 hi ⟨sm, g, ys, y0, rfl, eg, dys⟩
        have lt : i < ds.length := by
          rw [← lus]
          exact (List.getElem?_eq_some_iff.mp hi).1
        have gd := List.getElem?_eq_getElem lt
        obtain ⟨v, hv, dv⟩ := hus.get gd
        rw [hi] at hv
        cases hv
        have le1 := belAll_le ds i
        have le2 := belAll_le ds (i + 1)
        rw [belAll_take gd, List.length_append] at le2
        have lys := dys.length
        refine ⟨_, rfl, _, rfl, _, _, rfl, dv.up sm, formedAll_get hfa gd, Nat.le_trans (depthAll_get gd) hdd, by rw [← bel_len]; omega, fun p H4 zs sm4 np ep dz => ?_⟩
        have lzs := dz.length
        refine ⟨g, p, _, _, rfl, rfl, sm4 _ _ eg, ep, Nat.le_of_lt (big5 (by omega)), fun e ne => ?_⟩
        have sme := same_put (o := .lst (ys ++ zs)) ne
        refine ⟨sm.trans (sm4.trans sme), e, ys ++ zs, _, rfl, upd_same, ?_⟩
        rw [belAll_take gd]
        exact DxAll.append (dys.up (sm4.trans sme)) (dz.up sme)
      · rintro σ H3 ⟨sm, g, ys, y, rfl, eg, dys⟩
        rw [lus, List.take_length] at dys
        have lys := dys.length
        refine ⟨_, rfl, _, rfl, (by show 1 ≤ sizeLine; decide), fun e ne => ?_⟩
        have sme := same_put (o := .lst [V.ref a]) ne
        refine ⟨g, e, _, _, rfl, rfl, sme _ _ eg, upd_same, Nat.le_of_lt (big5 (by simp only [List.length_singleton]; omega)), fun p np => ?_⟩
        have smp := same_put (o := .lst (ys ++ [V.ref a])) np
        have smA := s2.trans (sm.trans (sme.trans smp))
        refine q p _ (ys ++ [V.ref a]) smA ((s2.trans (sm.trans sme)).free np) upd_same ?_
        rw [belD]
        exact DxAll.append (dys.up (sme.trans smp)) (.cons (hx0.up smA) .nil)
end
end K11
/-! How great a term is where another one is put in. -/
namespace K11
open PySem PySem.Spec PyProof.Rows L2 Kx
mutual
theorem sz_pre : ∀ d : PyData, formedD d = true → szD d = 2 * (preD d).length
  | .tuple (x :: ds), h => by
    rw [formedD, Bool.and_eq_true, Bool.and_eq_true] at h
    have hx : szD x = 1 := by
      cases x with
      | str z => rfl
      | _ => cases h.1.2
    rw [szD, szAll, preD, List.length_cons, hx, sz_pres ds h.2]
    omega
  | .tuple [], h => by cases h
  | .none, h => by cases h
  | .bool _, h => by cases h
  | .int _, h => by cases h
  | .str _, h => by cases h
  | .list _, h => by cases h
  | .dict _, h => by cases h
theorem sz_pres : ∀ ds : List PyData, formedAll ds = true → szAll ds = 2 * (preAll ds).length
  | [], _ => rfl
  | d :: ds, h => by
    rw [formedAll, Bool.and_eq_true] at h
    rw [szAll, preAll, List.length_append, sz_pre d h.1, sz_pres ds h.2]
    omega
end
mutual
theorem put_pre {o c : PyData} {M : Nat} (m1 : 1 ≤ M) (h : (preD c).length ≤ M * (preD o).length) : ∀ d : PyData, formedD d = true → (preD (putD o c d)).length ≤ M * (preD d).length
  | .tuple (x :: ds), f => by
    rw [putD]
    split
    · rename_i e
      rw [(eqv_iff f).mp e]
      exact h
    · rw [formedD, Bool.and_eq_true] at f
      rw [preD, preD, List.length_cons, List.length_cons, Nat.mul_add]
      have := put_pres m1 h ds f.2
      omega
  | .tuple [], h => by cases h
  | .none, h => by cases h
  | .bool _, h => by cases h
  | .int _, h => by cases h
  | .str _, h => by cases h
  | .list _, h => by cases h
  | .dict _, h => by cases h
theorem put_pres {o c : PyData} {M : Nat} (m1 : 1 ≤ M) (h : (preD c).length ≤ M * (preD o).length) : ∀ ds : List PyData, formedAll ds = true → (preAll (putAll o c ds)).length ≤ M * (preAll ds).length
  | [], _ => Nat.zero_le _
  | d :: ds, f => by
    rw [formedAll, Bool.and_eq_true] at f
    rw [putAll, preAll, preAll, List.length_append, List.length_append, Nat.mul_add]
    have := put_pre m1 h d f.1
    have := put_pres m1 h ds f.2
    omega
end
mutual
theorem put_depth {o c : PyData} : ∀ d : PyData, (putD o c d).depth ≤ d.depth + c.depth
  | .tuple (x :: ds) => by
    rw [putD]
    split
    · omega
    · have := put_depths (o := o) (c := c) ds
      simp only [PyData.depth, PyData.depthAll]
      omega
  | .tuple [] => by
    rw [putD]
    split <;> omega
    simp
  | .none => by rw [putD]; split <;> omega
                simp
  | .bool _ => by rw [putD]; split <;> omega
                  simp
  | .int _ => by rw [putD]; split <;> omega
                 simp
  | .str _ => by rw [putD]; split <;> omega
                 simp
  | .list _ => by rw [putD]; split <;> omega
                  simp
  | .dict _ => by rw [putD]; split <;> omega
                  simp
theorem put_depths {o c : PyData} : ∀ ds : List PyData, PyData.depthAll (putAll o c ds) ≤ PyData.depthAll ds + c.depth
  | [] => by simp [putAll, PyData.depthAll]
  | d :: ds => by
    have := put_depth (o := o) (c := c) d
    have := put_depths (o := o) (c := c) ds
    rw [putAll, PyData.depthAll, PyData.depthAll]
    omega
end
mutual
theorem put_rows {o c : PyData} {r : NK} : ∀ d : PyData, formedD d = true → r ∈ rowsD (putD o c d) → r ∈ rowsD d ∨ r ∈ rowsD c
  | .tuple (x :: ds), f, h => by
    rw [putD] at h
    split at h
    · exact .inr h
    · rw [formedD, Bool.and_eq_true] at f
      rw [rowsD] at h
      rcases List.mem_cons.mp h with e | h
      · refine .inl ?_
        rw [rowsD, e, putAll_map, List.length_map]
        exact List.mem_cons_self
      · rcases put_rowss ds f.2 h with h | h
        · refine .inl ?_
          rw [rowsD]
          exact List.mem_cons_of_mem _ h
        · exact .inr h
  | .tuple [], f, _ => by cases f
  | .none, f, _ => by cases f
  | .bool _, f, _ => by cases f
  | .int _, f, _ => by cases f
  | .str _, f, _ => by cases f
  | .list _, f, _ => by cases f
  | .dict _, f, _ => by cases f
theorem put_rowss {o c : PyData} {r : NK} : ∀ ds : List PyData, formedAll ds = true → r ∈ rowsAll (putAll o c ds) → r ∈ rowsAll ds ∨ r ∈ rowsD c
  | [], _, h => by cases h
  | d :: ds, f, h => by
    rw [formedAll, Bool.and_eq_true] at f
    rw [putAll, rowsAll] at h
    rw [rowsAll]
    rcases List.mem_append.mp h with h | h
    · rcases put_rows d f.1 h with h | h
      · exact .inl (List.mem_append_left _ h)
      · exact .inr h
    · rcases put_rowss ds f.2 h with h | h
      · exact .inl (List.mem_append_right _ h)
      · exact .inr h
end
def most : Nat → Nat
  | 0 => 0
  | n + 1 => 1 + 3 * most n
theorem pre_most : ∀ (n : Nat) (d : PyData), formedD d = true → d.depth ≤ n → (preD d).length ≤ most n
  | 0, d, f, h => by
    obtain ⟨x, ds, rfl, _⟩ := formed_shape f
    simp [PyData.depth] at h
  | n + 1, d, f, h => by
    obtain ⟨x, ds, rfl, l3, _, fa⟩ := formed_shape f
    have hd : PyData.depthAll ds ≤ n := by
      simp only [PyData.depth, PyData.depthAll] at h
      omega
    have key : ∀ es : List PyData, formedAll es = true → PyData.depthAll es ≤ n → (preAll es).length ≤ es.length * most n := by
      intro es
      induction es with
      | nil => intro _ _; exact Nat.zero_le _
      | cons e es ih =>
        intro fe he
        rw [formedAll, Bool.and_eq_true] at fe
        rw [PyData.depthAll] at he
        have := pre_most n e fe.1 (by omega)
        have := ih fe.2 (by omega)
        rw [preAll, List.length_append, List.length_cons, Nat.succ_mul]
        omega
    have := key ds fa hd
    have : ds.length * most n ≤ 3 * most n := Nat.mul_le_mul_right _ l3
    rw [preD, List.length_cons, most]
    omega
mutual
theorem part_of {e : PyData} : ∀ d : PyData, e ∈ belD d → e.depth ≤ d.depth ∧ ∀ r, r ∈ rowsD e → r ∈ rowsD d
  | .tuple (x :: ds), h => by
    rw [belD] at h
    rcases List.mem_append.mp h with h | h
    · obtain ⟨a, b⟩ := part_ofs ds h
      refine ⟨?_, fun r hr => ?_⟩
      · simp only [PyData.depth, PyData.depthAll]
        omega
      · rw [rowsD]
        exact List.mem_cons_of_mem _ (b r hr)
    · rw [List.mem_singleton.mp h]
      exact ⟨Nat.le_refl _, fun r hr => hr⟩
  | .tuple [], h => by
    rw [belD, List.mem_singleton] at h
    rw [h]
    exact ⟨Nat.le_refl _, fun r hr => hr⟩
    simp
  | .none, h => by
    rw [belD, List.mem_singleton] at h
    rw [h]
    exact ⟨Nat.le_refl _, fun r hr => hr⟩
    simp
  | .bool _, h => by
    rw [belD, List.mem_singleton] at h
    rw [h]
    exact ⟨Nat.le_refl _, fun r hr => hr⟩
    simp
  | .int _, h => by
    rw [belD, List.mem_singleton] at h
    rw [h]
    exact ⟨Nat.le_refl _, fun r hr => hr⟩
    simp
  | .str _, h => by
    rw [belD, List.mem_singleton] at h
    rw [h]
    exact ⟨Nat.le_refl _, fun r hr => hr⟩
    simp
  | .list _, h => by
    rw [belD, List.mem_singleton] at h
    rw [h]
    exact ⟨Nat.le_refl _, fun r hr => hr⟩
    simp
  | .dict _, h => by
    rw [belD, List.mem_singleton] at h
    rw [h]
    exact ⟨Nat.le_refl _, fun r hr => hr⟩
    simp
theorem part_ofs {e : PyData} : ∀ ds : List PyData, e ∈ belAll ds → e.depth ≤ PyData.depthAll ds ∧ ∀ r, r ∈ rowsD e → r ∈ rowsAll ds
  | [], h => by cases h
  | d :: ds, h => by
    rw [belAll] at h
    rw [PyData.depthAll, rowsAll]
    rcases List.mem_append.mp h with h | h
    · obtain ⟨a, b⟩ := part_of d h
      exact ⟨by omega, fun r hr => List.mem_append_left _ (b r hr)⟩
    · obtain ⟨a, b⟩ := part_ofs ds h
      exact ⟨by omega, fun r hr => List.mem_append_right _ (b r hr)⟩
end
/-- parts of a term have its names, and are no deeper -/
theorem Tm.part {rs : List NK} {n : Nat} {d e : PyData} (h : Tm rs n d) (m : e ∈ belD d) : Tm rs n e := by
  obtain ⟨a, b⟩ := part_of d m
  exact ⟨bel_formed d h.fm e m, fun r hr => h.rw r (b r hr), Nat.le_trans a h.dp⟩
theorem Tm.term {rs : List NK} {n : Nat} {d : PyData} (h : Tm rs n d) (g : Good rs) : termD d = true := by
  have fn : Func (rowsD d) := fun r hr t ht e => g.fn r (h.rw r hr) t (h.rw t ht) e
  rw [termD, h.fm, decide_eq_true fn]
  rfl
theorem DxAll.at {K : PySem.W.Frag} {H : Hp} {xs : List V} {ds : List PyData} {i : Nat} {v : V} (h : DxAll K H xs ds) (e : xs[i]? = some v) : ∃ d, d ∈ ds ∧ Dx K H v d := by
  have lt := (List.getElem?_eq_some_iff.mp e).1
  have lt2 : i < ds.length := by rw [← h.length]; exact lt
  obtain ⟨v2, hv2, dv2⟩ := h.get (List.getElem?_eq_getElem lt2)
  rw [e] at hv2
  cases hv2
  exact ⟨_, List.getElem_mem lt2, dv2⟩
end K11
/-! The sides of a fact, listed. -/
namespace K11
open PySem PySem.Spec PyProof.Rows L2 Kx
section
variable {P : Program} {w : World} {K : PySem.W.Frag} {mg : Str → Option Value} {base : Heap}
def rNn : R2 := fun x y H Q => y = .non ∧ Q (.bl (decide (x = .non))) H
theorem end_rd {σ : L2.St} {i : Nat} {v : V} {c : PyData} {H : Hp} {Q : VK} (h : σ[i]? = some (some v)) (dx : Dx K H v c) (q : ∀ l ws H', Same H H' → H' l = some (.lst ws) → DxAll K H' ws (endOf c) → Q (.ref l) H') :
    tIf (tTest (tOp rNn (tVar i) (tC .non))) (tLst tNil) (tLst (tCons (tVar i) tNil)) σ H Q := by
  refine ⟨_, h, ?_⟩
  show V.non = V.non ∧ _
  refine ⟨rfl, _, rfl, ?_⟩
  by_cases ev : v = .non
  · have ee := (dx_nil dx).mpr ev
    subst ee
    rw [decide_eq_true ev]
    exact iteT ⟨by show 0 ≤ sizeLine; decide, fun l nl => q l [] _ (same_put nl) upd_same .nil⟩
  · have ee : c ≠ .none := fun z => ev ((dx_nil dx).mp z)
    rw [decide_eq_false ev]
    refine iteF ⟨_, h, by show 1 ≤ sizeLine; decide, fun l nl => q l [v] _ (same_put nl) upd_same ?_⟩
    rw [endOf_some ee]
    exact .cons (dx.up (same_put nl)) .nil
theorem sides_take {ds : List PyData} {i : Nat} {d : PyData} (h : ds[i]? = some d) : sidesD (ds.take (i + 1)) = sidesD (ds.take i) ++ sidesOf d := by
  rw [sidesD, List.take_add_one, h, List.flatMap_append]
  simp [sidesD]
theorem cp_two {rs : List NK} {n : Nat} {ds : List PyData} (h : ∀ z, z ∈ ds → Cp rs n z) : formedAll (sidesD ds) = true ∧ (sidesD ds).length = 2 * ds.length := by
  induction ds with
  | nil => exact ⟨rfl, rfl⟩
  | cons z ds ih =>
    obtain ⟨i1, i2⟩ := ih fun y hy => h y (List.mem_cons_of_mem _ hy)
    obtain ⟨a, b, rfl, ha, hb⟩ := h z List.mem_cons_self
    have e : sidesD (.tuple [a, b] :: ds) = a :: b :: sidesD ds := by simp [sidesD, sidesOf]
    rw [e]
    refine ⟨by simp [formedAll, ha.fm, hb.fm, i1], ?_⟩
    simp only [List.length_cons, i2]
    omega
def spTi (K : PySem.W.Frag) : Sp := fun vs H Q _ => ∃ (a : Addr) (x : V) (L : List PyData) (c : PyData) (rs : List NK) (n : Nat), vs = [.ref a] ∧ H a = some (.lst [x]) ∧ Dx K H x (.tuple [.tuple L, c]) ∧ (∀ z, z ∈ L ++ endOf c → Cp rs n z) ∧ L.length ≤ 100 ∧
  ∀ p ys H', Same H H' → H p = none → H' p = some (.lst ys) → DxAll K H' ys (sidesD (L ++ endOf c)) → Q (.ref p) H'
theorem ok_ti (T : Tx K mg) : FnOk P w K mg base CX0 1 T.a_law_terms_in T.d_law_terms_in ["facts"] (spTi K) := by
  have nd := sc__law_terms_in.nd
  refine T.f_law_terms_in.ok sc__law_terms_in (fun vs H Q E h => ?_) (fun cdv A outer s H vs Q E hr h => ?_)
  · obtain ⟨a, x, L, c, rs, n, rfl, _⟩ := h
    rfl
  obtain ⟨a, x, L, c, rs, n, rfl, ha, dx, cp, lL, q⟩ := h
  refine ⟨_, (pss_cons (ps_set (i := 1) nd rfl (.inl rfl) (pe_lst pa_nil))
      (pss_cons (ps_for PassesOwn.never rfl (pi_list (pv 0)) (pg_tup rfl (pgs_cons (pg_name (i := 2) nd rfl (.inl rfl)) (pgs_cons (pg_name (i := 3) nd rfl (.inl rfl)) pgs_nil))) (pss_one (ps_for PassesOwn.never rfl (pi_list (pe_op op_cat (pe_callTy call_list_of (by rfl) T.b_list (by decide +kernel) (pa_cons (pv 2) pa_nil)) (pe_ifExp (pt_cmpR (r := rNn) op_isN (pv 3) pe_non (nomark _)) (pe_lst pa_nil) (pe_lst (pa_cons (pv 3) pa_nil))))) (pg_name (i := 4) nd rfl (.inl rfl)) (pss_one (ps_expr (pe_bm PySem.F.plainAttrs_list PySem.F.slot_list_extend PySem.F.type_list_extend mt_extend (pv 1) (pa_cons (pe_callTy call_list_of (by rfl) T.b_list (by decide +kernel) (pa_cons (pv 4) pa_nil)) pa_nil)))))))
      (pss_one (ps_ret (pv 1))))), ?_⟩
  refine ⟨Nat.zero_le _, fun f nf => ?_⟩
  have s0 := same_put (o := .lst []) nf
  have naf : a ≠ f := ne_of_none ha nf
  have le : (endOf c).length ≤ 1 := by cases c <;> simp [endOf]
  refine ⟨_, rfl, a, rfl, ⟨_, .inl (.inl (s0 _ _ ha))⟩, for_list (K := K) (a := a) (xs := [x]) (fun i σ G => Same H G ∧ ∃ ys y2 y3 y4, G f = some (.lst ys) ∧ σ = [some (.ref a), some (.ref f), y2, y3, y4] ∧ (i = 0 → ys = []) ∧ (0 < i → DxAll K G ys (sidesD (L ++ endOf c)))) ⟨s0, [], none, none, none, upd_same, rfl, fun _ => rfl, fun z => absurd z (Nat.lt_irrefl _)⟩ (fun i σ G _ h => .inl (.inl (h.1 _ _ ha))) ?_ ?_⟩
  · rintro i y σ G hi ⟨sG, ys, y2, y3, y4, ef, rfl, e0, _⟩
    have i0 : i = 0 := by
      have := (List.getElem?_eq_some_iff.mp hi).1
      simpa using this
    subst i0
    have ey : x = y := by simpa using hi
    subst ey
    have eys := e0 rfl
    subst eys
    obtain ⟨fa, t, us, v, rfl, hfa, ht, hus, hv⟩ := dx_fact (dx.up sG)
    have lu := hus.length
    refine ⟨fa, _, rfl, SqT.of hfa, rfl, _, _, rfl, _, _, rfl, rfl, ?_⟩
    refine ⟨_, rfl, t, us, rfl, .inr (SqT.of ht), fun l2 nl2 => ?_⟩
    have s2 := same_put (o := .lst us) nl2
    refine end_rd (i := 3) rfl (hv.up s2) fun l3 ws G3 s3 e3 dw => ?_
    have lw := dw.length
    have e2 := s3 _ _ (upd_same (H := G) (a := l2) (o := .lst us))
    refine ⟨l2, l3, us, ws, rfl, rfl, e2, e3, by rw [lu, lw]; exact Nat.le_of_lt (small1000 (by omega)), fun l4 nl4 => ?_⟩
    have s4 := same_put (o := .lst (us ++ ws)) nl4
    have s24 := s2.trans (s3.trans s4)
    have dA : DxAll K (upd G3 l4 (.lst (us ++ ws))) (us ++ ws) (L ++ endOf c) := DxAll.append (hus.up s24) (dw.up s4)
    have e4 : (upd G3 l4 (.lst (us ++ ws))) l4 = some (.lst (us ++ ws)) := upd_same
    have ef4 := s24 _ _ ef
    have sA := sG.trans s24
    have nf4 : f ≠ l4 := fun z => by
      rw [← z] at nl4
      rw [s3 _ _ (s2 _ _ ef)] at nl4
      cases nl4
    generalize upd G3 l4 (.lst (us ++ ws)) = G4 at s24 dA e4 ef4 sA
    have lA := dA.length
    have pu := cp_pure cp
    refine ⟨l4, rfl, ⟨_, .inl (.inl e4)⟩, for_list (K := K) (a := l4) (xs := us ++ ws) (fun i σ G => But f G4 G ∧ ∃ ys y4, G f = some (.lst ys) ∧ σ = [some (.ref a), some (.ref f), some (.ref t), some v, y4] ∧ DxAll K G ys (sidesD ((L ++ endOf c).take i))) ⟨But.refl f G4, [], _, ef4, rfl, .nil⟩ (fun i σ G _ h => .inl (.inl (h.1 _ _ e4 nf4.symm))) ?_ ?_⟩
    · rintro i y σ G hi ⟨bG, ys, y4, ef5, rfl, dys⟩
      have lt : i < (L ++ endOf c).length := by
        rw [← lA]
        exact (List.getElem?_eq_some_iff.mp hi).1
      have gd := List.getElem?_eq_getElem lt
      obtain ⟨v2, hv2, dv2⟩ := dA.get gd
      rw [hi] at hv2
      cases hv2
      obtain ⟨a1, b1, eab, ta, tb⟩ := cp _ (List.getElem_mem lt)
      have tb5 : Tups G4 G := fun z zs hz => bG _ _ hz fun e => by
        rw [e, ef4] at hz
        cases hz
      have dv3 := Dx.ts tb5 _ _ (by rw [eab]; exact pure_two ta.fm tb.fm) dv2
      rw [eab] at dv3 gd
      obtain ⟨p1, u1, w1, rfl, hp1, du, dw1⟩ := dx_couple dv3
      refine ⟨_, rfl, .inl ⟨rfl, _, SqL.of ef5⟩, _, rfl, p1, [u1, w1], rfl, .inr (SqT.of hp1), fun l5 nl5 => ?_⟩
      have s5 := same_put (o := .lst [u1, w1]) nl5
      have nf5 : f ≠ l5 := ne_of_none ef5 nl5
      have fs : formedAll (sidesD ((L ++ endOf c).take i)) = true ∧ (sidesD ((L ++ endOf c).take i)).length ≤ 202 := by
        obtain ⟨h1, h2⟩ := cp_two (ds := (L ++ endOf c).take i) fun z hz => cp z (List.mem_of_mem_take hz)
        refine ⟨h1, ?_⟩
        rw [h2, List.length_take, List.length_append]
        omega
      have ef6 := s5 _ _ ef5
      have tl := Tups.lst (ys := ys ++ [u1, w1]) ef6
      refine ⟨f, l5, _, _, rfl, rfl, ef6, upd_same, by rw [dys.length]; exact Nat.le_of_lt (small1000 (by have := fs.2; show _ + 2 ≤ 1000; omega)), ?_, ys ++ [u1, w1], _, upd_same, rfl, ?_⟩
      · intro z o hz ne
        rw [upd_ne ne]
        exact s5 _ _ (bG _ _ hz ne)
      · rw [sides_take gd]
        exact DxAll.append (DxAll.ts (Tups.of s5 |>.trans tl) _ _ (pure_formedAll _ fs.1) dys) (.cons (Dx.ts (Tups.of s5 |>.trans tl) _ _ (pure_formed _ ta.fm) du) (.cons (Dx.ts (Tups.of s5 |>.trans tl) _ _ (pure_formed _ tb.fm) dw1) .nil))
    · rintro σ G ⟨bG, ys, y4, ef5, rfl, dys⟩
      rw [lA, List.take_length] at dys
      refine ⟨fun z o hz => ?_, ys, _, _, _, ef5, rfl, fun z => absurd z (by omega), fun _ => dys⟩
      have nz : z ≠ f := ne_of_none hz nf
      exact bG _ _ (sA _ _ hz) nz
  · rintro σ G ⟨sG, ys, y2, y3, y4, ef, rfl, _, d1⟩
    exact ⟨_, rfl, q f ys G sG nf ef (d1 Nat.zero_lt_one)⟩
end
end K11
/-! What is due. -/
namespace K11
open PySem PySem.Spec PyProof.Rows L2 Kx
theorem bel_few {rs : List NK} {n : Nat} : ∀ {es : List PyData}, (∀ x, x ∈ es → Tm rs n x) → (belAll es).length ≤ es.length * most n
  | [], _ => by simp [belAll]
  | d :: es, h => by
    have ih := bel_few (es := es) fun x hx => h x (List.mem_cons_of_mem _ hx)
    have td := h d List.mem_cons_self
    have := pre_most n d td.fm td.dp
    rw [belAll, List.length_append, bel_len, List.length_cons, Nat.add_mul, Nat.one_mul]
    omega
theorem bel_tm {rs : List NK} {n : Nat} : ∀ {es : List PyData}, (∀ x, x ∈ es → Tm rs n x) → ∀ e, e ∈ belAll es → Tm rs n e
  | [], _, e, he => by cases he
  | d :: es, h, e, he => by
    rw [belAll] at he
    rcases List.mem_append.mp he with he | he
    · exact (h d List.mem_cons_self).part he
    · exact bel_tm (fun x hx => h x (List.mem_cons_of_mem _ hx)) e he
theorem tm_all {rs : List NK} {n : Nat} : ∀ {es : List PyData}, (∀ x, x ∈ es → Tm rs n x) → formedAll es = true
  | [], _ => rfl
  | d :: es, h => by rw [formedAll, (h d List.mem_cons_self).fm, tm_all fun x hx => h x (List.mem_cons_of_mem _ hx)]; rfl
theorem prs_cp {rs : List NK} {n : Nat} {ds : List PyData} {L : List PyData} {c : PyData} (p : Prs ds L) (F : Func rs) (cp : ∀ z, z ∈ ds → Cp rs n z) (pc : c = .none ∨ Pr rs n c) : Fa rs n ds.length L c := by
  have pL : ∀ z, z ∈ L → Pr rs n z := fun z hz => by
    obtain ⟨c, e, rfl, l, m⟩ := (p.mem z).mp hz
    rcases m with m | m
    · obtain ⟨x, y, e0, tx0, ty0⟩ := cp _ m
      simp only [PyData.tuple.injEq, List.cons.injEq, and_true] at e0
      obtain ⟨rfl, rfl⟩ := e0
      exact ⟨_, _, rfl, tx0, ty0, (tx_lt tx0.fm ty0.fm (rows_in tx0 ty0 F)).mp l⟩
    · obtain ⟨x, y, e0, tx0, ty0⟩ := cp _ m
      simp only [PyData.tuple.injEq, List.cons.injEq, and_true] at e0
      obtain ⟨rfl, rfl⟩ := e0
      exact ⟨_, _, rfl, ty0, tx0, (tx_lt ty0.fm tx0.fm (rows_in ty0 tx0 F)).mp l⟩
  exact ⟨pL, p.srt, pc, p.len⟩
/-- what is told, of two terms -/
def ToldD (rs : List NK) (n : Nat) (told : PyData) : Prop := told = .none ∨ ∃ a b, told = .tuple [a, b] ∧ Tm rs n a ∧ Tm rs n b
theorem fo_due {rs : List NK} {n : Nat} {ds : List PyData} {told r1 r2 : PyData} (F : Func rs) (h1 : FoD ds told r1) (h2 : DueD ds told r2) (ct : ToldD rs n told) (ne : ∀ a b, told = .tuple [a, b] → a ≠ b) : r1 = r2 := by
  obtain ⟨L, p1, h1⟩ := h1
  obtain ⟨M, p2, h2⟩ := h2
  have e := p1.uniq p2 fun _ _ => Iff.rfl
  subst e
  rcases ct with rfl | ⟨a, b, rfl, ta, tb⟩
  · rcases h1 with ⟨_, e1⟩ | ⟨a, b, z, _⟩
    · rcases h2 with ⟨_, e2⟩ | ⟨a, b, z, _⟩
      · rw [e1, e2]
      · cases z
    · cases z
  · have nab := ne a b rfl
    rcases h2 with ⟨z, _⟩ | ⟨a2, b2, z2, e2⟩
    · cases z
    rcases h1 with ⟨z, _⟩ | ⟨a1, b1, z1, e1⟩
    · cases z
    simp only [PyData.tuple.injEq, List.cons.injEq, and_true] at z1 z2
    obtain ⟨rfl, rfl⟩ := z1
    obtain ⟨rfl, rfl⟩ := z2
    have fab := rows_in ta tb F
    have fba := rows_in tb ta F
    rw [e2]
    rcases e1 with ⟨m, _⟩ | ⟨m, e1⟩ | ⟨m, e1⟩
    · exact absurd (tx_inj ta.fm tb.fm fab m) nab
    · rw [e1, ordP, if_pos ((tx_lt ta.fm tb.fm fab).mp m)]
    · rw [e1, ordP, if_neg fun z => absurd (List.lt_trans m ((tx_lt ta.fm tb.fm fab).mpr z)) (List.lt_irrefl _)]
theorem fo_none {ds : List PyData} {a r : PyData} (h : FoD ds (.tuple [a, a]) r) : r = .none := by
  obtain ⟨L, _, h⟩ := h
  rcases h with ⟨z, _⟩ | ⟨x, y, z, h⟩
  · cases z
  simp only [PyData.tuple.injEq, List.cons.injEq, and_true] at z
  obtain ⟨rfl, rfl⟩ := z
  rcases h with ⟨_, h⟩ | ⟨m, _⟩ | ⟨m, _⟩
  · exact h
  · exact absurd m (List.lt_irrefl _)
  · exact absurd m (List.lt_irrefl _)
theorem due_ly {rs : List NK} {n : Nat} {ds : List PyData} {told r : PyData} (F : Func rs) (l : n ≤ 6) (h : DueD ds told r) (cp : ∀ z, z ∈ ds → Cp rs n z) (ct : ToldD rs n told) (ne : ∀ a b, told = .tuple [a, b] → a ≠ b) : Ly r := by
  obtain ⟨L, p, h⟩ := h
  rcases h with ⟨_, rfl⟩ | ⟨a, b, e, rfl⟩
  · exact fa_ly (prs_cp p F cp (.inl rfl)) l
  · rcases ct with rfl | ⟨a', b', e', ta, tb⟩
    · cases e
    · rw [e] at e'
      simp only [PyData.tuple.injEq, List.cons.injEq, and_true] at e'
      obtain ⟨rfl, rfl⟩ := e'
      exact fa_ly (prs_cp p F cp (.inr (pr_ord ta tb (ne a b e)))) l
end K11
/-! sorted([kept[key] for key in kept]), kept a dict of terms. -/
namespace K11
open PySem PySem.Spec PyProof.Rows L2 Kx
theorem func_two {ds : List PyData} (F : Func (rowsAll ds)) {a b : PyData} (ha : a ∈ ds) (hb : b ∈ ds) : Func (rowsD a ++ rowsD b) := F.sub fun p hp => (List.mem_append.mp hp).elim (rows_side ha p) (rows_side hb p)
theorem sorted_terms {K : PySem.W.Frag} {σ : L2.St} {i j : Nat} {H : Hp} {Q : VK} {fd : Addr} {kvs : List (Key × V)} {ds : List PyData} (hi : σ[i]? = some (some (.ref fd))) (hij : i ≠ j) (lj : j < σ.length) (e : H fd = some (.dK kvs)) (kp : KtD K H ds kvs) (fm : ∀ d, d ∈ ds → formedD d = true) (F : Func (rowsAll ds)) (few : kvs.length ≤ 900) (dp : ∀ x, x ∈ ds → x.depth ≤ 58)
    (q : ∀ p us L H', Same H H' → H' p = some (.lst us) → DxAll K H' us L → Onc ds L → Q (.ref p) H') : tLockE (tLc (iKeys (tVar i)) (gName j) tYes (tDGet (tVar i) (tVar j)) [j]) σ H fun x H1 => rSortD K [x] H1 Q := by
  have hi2 : (σ.set j none)[i]? = some (some (.ref fd)) := by rw [List.getElem?_set_ne hij.symm]; exact hi
  refine ⟨fd, .dK kvs, e, trivial, fun od => ⟨_, hi, fd, od, rfl, .inl ⟨kvs, upd_same, fun D nD => ?_⟩⟩⟩
  have eL : (upd H fd (.frz od (.dK kvs))) fd = some (.frz od (.dK kvs)) := upd_same
  have bL : ButL [fd] H (upd H fd (.frz od (.dK kvs))) := ButL.refl.put (List.mem_singleton_self _)
  have tL : Tups H (upd H fd (.frz od (.dK kvs))) := fun b us h => by
    rw [upd_ne (ne_of h e (fun z => nomatch z))]
    exact h
  have kpL := kp.ts fm tL
  generalize upd H fd (.frz od (.dK kvs)) = L at eL bL kpL nD ⊢
  have nfD : fd ≠ D := ne_of_none eL nD
  refine lc_keys (fun n G => Same L G ∧ ∃ vs M, G D = some (.lst vs) ∧ DxAll K L vs M ∧ vs = (kvs.take n).map Prod.snd ∧ M.length = vs.length ∧ ∀ (m : Nat) z, M[m]? = some z → z ∈ ds ∧ ∃ p, kvs[m]? = some p ∧ p.1 = .inr (tkey z)) ⟨same_put nD, [], [], upd_same, .nil, rfl, rfl, fun m z h => by cases h⟩ (fun n G h => h.1 _ _ eL) ?_ ?_
  · rintro n k v G hk ⟨sG, vs, M, eD, dM, ev, lM, aM⟩
    have mem := List.mem_of_getElem? hk
    have lt : n < kvs.length := (List.getElem?_eq_some_iff.mp hk).1
    obtain ⟨d, md, ek, dv⟩ := kpL.at_ _ mem
    have lv : vs.length = n := by
      rw [ev, List.length_map, List.length_take]
      omega
    refine ⟨by show ((σ.set j none).set j (some (kV k))).set j none = σ.set j none; rw [List.set_set, List.set_set], (iteT (B := False) ?_ : if true = true then _ else False)⟩
    refine ⟨_, (by show ((σ.set j none).set j (some (kV k)))[i]? = _; rw [List.getElem?_set_ne hij.symm]; exact hi2), _, (by show ((σ.set j none).set j (some (kV k)))[j]? = _; rw [List.getElem?_set_self (by rw [List.length_set]; exact lj)]), fd, v, rfl, .inl ⟨kvs, k, .inr ⟨od, sG _ _ eL⟩, rfl, (val_of_mem kpL.nd mem).symm⟩, vs, eD, small1000 (by omega), fun c o hc => ?_, vs ++ [v], M ++ [d], upd_same, DxAll.append dM (.cons dv .nil), ?_, by rw [List.length_append, List.length_append, lM]; rfl, fun m z hm => ?_⟩
    · rw [upd_ne (ne_of_none hc nD)]
      exact sG c o hc
    · rw [ev, List.take_add_one, hk, List.map_append]
      rfl
    · by_cases hmn : m < M.length
      · rw [List.getElem?_append_left hmn] at hm
        exact aM m z hm
      · rw [List.getElem?_append_right (by omega)] at hm
        have m0 : m = n := by
          have := (List.getElem?_eq_some_iff.mp hm).1
          rw [List.length_singleton] at this
          omega
        rw [m0, lM, lv, Nat.sub_self] at hm
        cases hm
        exact ⟨md, _, by rw [m0]; exact hk, ek⟩
  · rintro G ⟨sG, vs, M, eD, dM, ev, lM, aM⟩
    rw [List.take_length] at ev
    refine ⟨sG _ _ eL, ?_⟩
    have s1 : Same H (upd G fd (.dK kvs)) := unlocked1 (bL.trans (ButL.of sG)) e
    have eD1 : (upd G fd (.dK kvs)) D = some (.lst vs) := by
      rw [upd_ne nfD.symm]
      exact eD
    have tG : Tups L (upd G fd (.dK kvs)) := fun b us h => by
      rw [upd_ne (ne_of h eL (fun z => nomatch z))]
      exact sG _ _ h
    have cM : ∀ z, z ∈ M → z ∈ ds := fun z hz => by
      obtain ⟨m, hm⟩ := List.getElem?_of_mem hz
      exact (aM m z hm).1
    have pM : pureAll M = true := pure_formedAll _ (all_formed fun z hz => fm z (cM z hz))
    have dM1 := DxAll.ts tG _ _ pM dM
    generalize upd G fd (.dK kvs) = H1 at s1 eD1 dM1 ⊢
    have lv : vs.length ≤ 900 := by
      rw [ev, List.length_map]
      exact few
    obtain ⟨its, ei⟩ : ∃ its : List Item, its = vs.zip M := ⟨_, rfl⟩
    have e1 : its.map Prod.fst = vs := by rw [ei, List.map_fst_zip (by omega)]
    have e2 : its.map Prod.snd = M := by rw [ei, List.map_snd_zip (by omega)]
    have each : ∀ p, p ∈ its → Dx K H1 p.1 p.2 := by
      rw [ei]
      exact zip_dx dM1
    have inM : ∀ p, p ∈ its → p.2 ∈ M := fun p hp => by rw [← e2]; exact List.mem_map.mpr ⟨p, hp, rfl⟩
    refine ⟨D, its, rfl, by rw [e1]; exact SqL.of eD1, fun p hp => ?_, ?_, ?_, ?_, fun p hp => ?_, fun p np => ?_⟩
    · exact Dx.dp (lay_formed _ (fm _ (cM _ (inM p hp)))).2 (each p hp)
    · rw [e2]
      intro d hd d' hd'
      exact alike_formed d d' (fm d (cM d hd)) (fm d' (cM d' hd'))
    · rw [e2]
      exact .inl fun d hd => by
        obtain ⟨x, es, rfl, _⟩ := formed_shape (fm d (cM d hd))
        exact ⟨_, _, rfl⟩
    · have := congrArg List.length e1
      rw [List.length_map] at this
      rw [this]
      exact Nat.le_of_lt (small1000 (by omega))
    · have := dp _ (cM _ (inM p hp))
      omega
    · have inj : ∀ {m m' : Nat} {z z' : PyData}, M[m]? = some z → M[m']? = some z' → z = z' → m = m' := fun {m m' z z'} h1 h2 ez => by
        obtain ⟨_, p1, hp1, k1⟩ := aM m z h1
        obtain ⟨_, p2, hp2, k2⟩ := aM m' z' h2
        have k3 : (kvs.map Prod.fst)[m]? = (kvs.map Prod.fst)[m']? := by
          rw [List.getElem?_map, List.getElem?_map, hp1, hp2]
          show some p1.1 = some p2.1
          rw [k1, k2, ez]
        exact (List.getElem?_inj (h₀ := by rw [List.length_map]; exact (List.getElem?_eq_some_iff.mp hp1).1) (h₁ := kp.nd)).mp k3
      have ndM : M.Nodup := by
        rw [List.Nodup, List.pairwise_iff_getElem]
        intro m m' hm hm' lt he
        have := inj (List.getElem?_eq_getElem hm) (List.getElem?_eq_getElem hm') he
        omega
      have nd : (its.map fun b => PySem.W.keyToks b.2).Nodup := by
        have : (its.map fun b => PySem.W.keyToks b.2) = M.map PySem.W.keyToks := by rw [← e2, List.map_map]; rfl
        rw [this, List.Nodup, List.pairwise_map]
        refine List.Pairwise.imp_of_mem (fun {x y} hx hy ne he => ne ?_) ndM
        have fx := fm x (cM x hx)
        have fy := fm y (cM y hy)
        rcases ltR_tri fx fy with h | h | h
        · exact absurd (show ltR y y from by
            have h : PySem.W.dataLt x y = true := h
            show PySem.W.dataLt y y = true
            unfold PySem.W.dataLt at h ⊢
            rw [he] at h
            exact h) (ltR_irrefl y)
        · exact h
        · exact absurd (show ltR y y from by
            have h : PySem.W.dataLt y x = true := h
            show PySem.W.dataLt y y = true
            unfold PySem.W.dataLt at h ⊢
            rw [he] at h
            exact h) (ltR_irrefl y)
      have srt := sort_strict (k := fun b : Item => b.2) nd
      have pz := List.mergeSort_perm its (PySem.W.dataLe false Prod.snd)
      refine q p _ ((its.mergeSort (PySem.W.dataLe false Prod.snd)).map Prod.snd) _ (s1.trans (same_put np)) upd_same ?_ ⟨fun z => ?_, ?_⟩
      · have each2 : ∀ l : List Item, (∀ p, p ∈ l → Dx K H1 p.1 p.2) → DxAll K H1 (l.map Prod.fst) (l.map Prod.snd) := fun l => by
          induction l with
          | nil => intro _; exact .nil
          | cons x l ih => intro h; exact .cons (h x List.mem_cons_self) (ih fun y hy => h y (List.mem_cons_of_mem _ hy))
        exact (each2 _ fun p hp => each p (pz.mem_iff.mp hp)).up (same_put np)
      · rw [(pz.map Prod.snd).mem_iff, e2]
        refine ⟨cM z, fun hz => ?_⟩
        obtain ⟨p1, hp1, k1⟩ := List.mem_map.mp (kp.all z hz)
        obtain ⟨m, hm⟩ := List.getElem?_of_mem hp1
        have lt : m < M.length := by
          rw [lM, ev, List.length_map]
          exact (List.getElem?_eq_some_iff.mp hm).1
        obtain ⟨mz2, p2, hp2, k2⟩ := aM m _ (List.getElem?_eq_getElem lt)
        rw [hm] at hp2
        cases hp2
        rw [k1] at k2
        have k3 : tkey z = tkey M[m] := Sum.inr.inj k2
        rw [tx_inj (fm z hz) (fm _ mz2) (func_two F hz mz2) (tS_inj k3)]
        exact List.getElem_mem lt
      · rw [List.pairwise_map]
        exact srt
end K11
/-! _law_once. -/
namespace K11
open PySem PySem.Spec PyProof.Rows L2 Kx
theorem KtD.merge {K : PySem.W.Frag} {H : Hp} : ∀ {kvl : List (Key × V)} {ds : List PyData} {acc : List (Key × V)} {ds0 : List PyData}, Paired (fun (kv : Key × V) d => kv.1 = (.inr (tkey d) : Key) ∧ Dx K H kv.2 d) kvl ds → KtD K H ds0 acc → KtD K H (ds0 ++ ds) (mergeK acc kvl)
  | _, _, acc, ds0, .nil, h => by rw [List.append_nil]; exact h
  | kv :: kvl, d :: ds, acc, ds0, .cons r t, h => by
    obtain ⟨k, v⟩ := kv
    obtain ⟨rfl, dv⟩ := r
    have := KtD.merge (acc := putK acc (.inr (tkey d)) v) t (h.put dv)
    rw [List.append_assoc] at this
    exact this
theorem paired_tups {G G' : Hp} (t : Tups G G') : ∀ {ps : List Addr} {kvl : List (Key × V)}, Paired (fun p (kv : Key × V) => G p = some (.tup [kV kv.1, kv.2])) ps kvl → Paired (fun p (kv : Key × V) => G' p = some (.tup [kV kv.1, kv.2])) ps kvl
  | _, _, .nil => .nil
  | _, _, .cons a r => .cons (t _ _ a) (paired_tups t r)
section
variable {P : Program} {w : World} {K : PySem.W.Frag} {mg : Str → Option Value} {base : Heap}
theorem ret_sorted {σ : L2.St} {i j : Nat} {H : Hp} {D : L2.Ends} {fd : Addr} {kvs : List (Key × V)} {ds : List PyData} (hi : σ[i]? = some (some (.ref fd))) (hij : i ≠ j) (lj : j < σ.length) (e : H fd = some (.dK kvs)) (kp : KtD K H ds kvs) (fm : ∀ d, d ∈ ds → formedD d = true) (F : Func (rowsAll ds)) (few : kvs.length ≤ 900) (dp : ∀ x, x ∈ ds → x.depth ≤ 58)
    (q : ∀ p us L H', Same H H' → H' p = some (.tup us) → DxAll K H' us L → Onc ds L → D.rt (.ref p) H') : tRet (tCB (rTupOf K) (tCons (tCB (rSortD K) (tCons (tLockE (tLc (iKeys (tVar i)) (gName j) tYes (tDGet (tVar i) (tVar j)) [j])) tNil)) tNil)) D σ H :=
  sorted_terms (Q := fun y H2 => rTupOf K [y] H2 fun z H3 => D.rt z H3) hi hij lj e kp fm F few dp fun p us L H1 s1 ep dL pL => ⟨p, us, rfl, .inl ⟨SqL.of ep, fun t nt => q t us L _ (s1.trans (same_put nt)) upd_same (dL.up (same_put nt)) pL⟩⟩
def spOnce (K : PySem.W.Frag) : Sp := fun vs H Q _ => ∃ (a : Addr) (xs : List V) (ds : List PyData), vs = [.ref a] ∧ SqL K H a xs ∧ DxAll K H xs ds ∧ (∀ d, d ∈ ds → formedD d = true ∧ d.depth ≤ 6 ∧ (tx d).length ≤ 1000000) ∧ Func (rowsAll ds) ∧ ds.length ≤ 900 ∧
  ∀ y L H', Same H H' → Dx K H' y (.tuple L) → Onc ds L → Q y H'
theorem ok_once (T : Tx K mg) : FnOk P w K mg base CX0 9 T.a_law_once T.d_law_once ["terms"] (spOnce K) := by
  have nd := sc__law_once.nd
  have GT := ok_txt (P := P) (w := w) (base := base) T 6
  refine T.f_law_once.ok sc__law_once (fun vs H Q E h => ?_) (fun cdv A outer s H vs Q E hr h => ?_)
  · obtain ⟨a, xs, ds, rfl, _⟩ := h
    rfl
  obtain ⟨a, xs, ds, rfl, ha, dx, hds, F, few, q⟩ := h
  have hu := hu_of hr
  refine ⟨_, (pss_cons (ps_set (i := 1) nd rfl (.inr rfl) (pe_callTy (call_dictP rfl) (by rfl) T.b_dict (by decide +kernel) (pa_cons (pe_lc (own := [("one", 2)]) (g := (gName 2)) (tt := tYes) (by rfl) nd (pi_list (pv 0)) (blkOk_by (own := [("one", 2)]) (N := N__law_once) (sc := defScope s__law_once) (by decide +kernel)) (fun _ _ _ _ _ => pg_name (i := 2) nd rfl (.inl rfl)) (fun _ _ _ _ _ => pts_nil) (fun _ _ _ _ _ => (pe_tup (pa_cons (pe_call GT (hr.mono (by omega)) (by rfl) T.g_law_text T.f_law_text.kp T.n_law_text .nil pass0 (pa_cons (pv 2) pa_nil)) (pa_cons (pv 2) pa_nil))))) pa_nil)))
      (pss_one (ps_ret (pe_callTy call_tuple_of (by rfl) T.b_tuple (by decide +kernel) (pa_cons (pe_callB (cr_sortedD hr.units) (by rfl) T.b_sorted (by decide +kernel) (pa_cons (pe_lock (pe_lc (own := [("key", 3)]) (g := (gName 3)) (tt := tYes) (by rfl) nd (pi_keys (pv 1)) (blkOk_by (own := [("key", 3)]) (N := N__law_once) (sc := defScope s__law_once) (by decide +kernel)) (fun _ _ _ _ _ => pg_name (i := 3) nd rfl (.inl rfl)) (fun _ _ _ _ _ => pts_nil) (fun _ _ _ _ _ => (pe_dget hu (pv 1) (pv 3) (fun _ _ => rfl))))) pa_nil)) pa_nil))))), ?_⟩
  have lx := dx.length
  have hf : ∀ d, d ∈ ds → formedD d = true := fun d hd => (hds d hd).1
  refine ⟨_, rfl, a, rfl, ⟨_, ha⟩, fun D nD => ?_⟩
  refine lc_list (K := K) (a := a) (xs := xs) (fun i G => Same H G ∧ ∃ ps kvl, G D = some (.lst (ps.map V.ref)) ∧ Paired (fun p (kv : Key × V) => G p = some (.tup [kV kv.1, kv.2])) ps kvl ∧ Paired (fun (kv : Key × V) d => kv.1 = (.inr (tkey d) : Key) ∧ Dx K H kv.2 d) kvl (ds.take i)) ⟨same_put nD, [], [], upd_same, .nil, .nil⟩ (fun i G _ h => h.1.seq ha) ?_ ?_
  · rintro i y G hi ⟨sG, ps, kvl, eD, pr, pd⟩
    have lt : i < ds.length := by
      rw [← lx]
      exact (List.getElem?_eq_some_iff.mp hi).1
    have gd := List.getElem?_eq_getElem lt
    obtain ⟨v2, hv2, dv2⟩ := dx.get gd
    rw [hi] at hv2
    cases hv2
    obtain ⟨f1, f2, f3⟩ := hds _ (List.getElem_mem lt)
    refine ⟨rfl, (iteT (B := False) ?_ : if true = true then _ else False)⟩
    refine ⟨_, rfl, y, _, rfl, dv2.up sG, f1, f2, f3, fun G2 s2 => ⟨_, rfl, by show 2 ≤ sizeLine; decide, fun u nu => ?_⟩⟩
    have su := same_put (o := .tup [.str (tkey ds[i]), y]) nu
    have s2u := s2.trans su
    have eDu := s2u _ _ eD
    have tl := Tups.lst (ys := (ps ++ [u]).map V.ref) eDu
    have lps : ps.length ≤ i := by
      have h1 : ps.length = kvl.length := Paired.length pr
      have h2 : kvl.length = (ds.take i).length := Paired.length pd
      rw [List.length_take] at h2
      omega
    refine ⟨_, eDu, by rw [List.length_map]; exact small1000 (by omega), fun k o hk => ?_, ps ++ [u], kvl ++ [(.inr (tkey ds[i]), y)], by rw [upd_same, List.map_append]; rfl, ?_, ?_⟩
    · rw [upd_ne (ne_of_none hk nD)]
      exact s2u _ _ (sG _ _ hk)
    · have := Paired.snoc (paired_tups ((Tups.of s2u).trans tl) pr) (a := u) (b := ((.inr (tkey ds[i]) : Key), y)) (tl _ _ upd_same)
      rw [List.map_append] at this
      exact this
    · rw [List.take_add_one, gd]
      exact Paired.snoc pd ⟨rfl, dv2⟩
  rintro G ⟨sG, ps, kvl, eD, pr, pd⟩
  rw [lx, List.take_length] at pd
  refine ⟨D, ps, kvl, rfl, SqL.of eD, Paired.mapP pr (fun _ _ h => SqT.of h), fun p3 np3 => ?_⟩
  have s3 := same_put (o := .dK (mergeK [] kvl)) np3
  have kt0 := KtD.merge pd (KtD.nil (K := K) (G := H))
  rw [List.nil_append] at kt0
  have kt := kt0.ts hf (Tups.of (sG.trans s3))
  have lk := kt.len
  refine ret_sorted (K := K) (i := 1) (j := 3) rfl (by decide) (by show 3 < 4; decide) upd_same kt hf F (by omega) (fun x hx => Nat.le_trans (hds x hx).2.1 (by decide)) fun p us L H6 s6 ep dL onc => ?_
  exact q _ L H6 (sG.trans (s3.trans s6)) (.tup ep dL) onc
end
end K11
/-! _law_raw. -/
namespace K11
open PySem PySem.Spec PyProof.Rows L2 Kx
theorem dx_perm {K : PySem.W.Frag} {H : Hp} {us ys : List V} (p : us.Perm ys) : ∀ {ds : List PyData}, DxAll K H us ds → ∃ ds', DxAll K H ys ds' ∧ ds'.Perm ds := by
  induction p with
  | nil => intro ds h; exact ⟨ds, h, .refl _⟩
  | cons x _ ih =>
    intro ds h
    cases h with
    | cons a b =>
      obtain ⟨d', h1, h2⟩ := ih b
      exact ⟨_, .cons a h1, h2.cons _⟩
  | swap x y l =>
    intro ds h
    cases h with
    | cons a b =>
      cases b with
      | cons c d => exact ⟨_, .cons c (.cons a d), .swap _ _ _⟩
  | trans _ _ i1 i2 =>
    intro ds h
    obtain ⟨d1, h1, q1⟩ := i1 h
    obtain ⟨d2, h2, q2⟩ := i2 h1
    exact ⟨d2, h2, q2.trans q1⟩
section
variable {P : Program} {w : World} {K : PySem.W.Frag} {mg : Str → Option Value} {base : Heap}
/-- a couple put behind a list -/
theorem put_cp {G : Hp} {f k : Addr} {us : List V} {ds : List PyData} {u v : V} {a1 b1 : PyData} {rs : List NK} {n : Nat} (ef : G f = some (.lst us)) (dx : DxAll K G us ds) (cp : ∀ z, z ∈ ds → Cp rs n z) (du : Dx K G u a1) (dv : Dx K G v b1) (ta : Tm rs n a1) (tb : Tm rs n b1) (nk : G k = none) :
    DxAll K (upd (upd G k (.tup [u, v])) f (.lst (us ++ [.ref k]))) (us ++ [.ref k]) (ds ++ [.tuple [a1, b1]]) := by
  have sk := same_put (o := .tup [u, v]) nk
  have tl := Tups.lst (ys := us ++ [.ref k]) (sk _ _ ef)
  have t2 := (Tups.of sk).trans tl
  exact DxAll.append (DxAll.ts t2 _ _ (cp_pure cp) dx) (.cons (.tup (tl _ _ upd_same) (.cons (Dx.ts t2 _ _ (pure_formed _ ta.fm) du) (.cons (Dx.ts t2 _ _ (pure_formed _ tb.fm) dv) .nil))) .nil)
def spRaw (K : PySem.W.Frag) : Sp := fun vs H Q _ => ∃ (a b : Addr) (m : Nat) (zs : List Rw), vs = [.ref a, .ref b] ∧ Dice H a m ∧ m + 2000 < cap ∧ RowsIn H b zs ∧ b ≠ a ∧ Good (zs.map Prod.snd) ∧
  ∀ p us ds H', But a H H' → Dice H' a (m + 2000) → p ≠ a → H p = none → H' p = some (.lst us) → DxAll K H' us ds → (∀ z, z ∈ ds → Cp (zs.map Prod.snd) 3 z) → ds.length ≤ 10 → Q (.ref p) H'
theorem ok_raw (T : Tx K mg) : FnOk P w K mg base CX0 9 T.a_law_raw T.d_law_raw ["dice", "known"] (spRaw K) := by
  have nd := sc__law_raw.nd
  have GR := ok_roll (P := P) (w := w) (base := base) T
  have GD := ok_dp (P := P) (w := w) (base := base) T 3
  have GM := ok_mixed (P := P) (w := w) (base := base) T
  refine T.f_law_raw.ok sc__law_raw (fun vs H Q E h => ?_) (fun cdv A outer s H vs Q E hr h => ?_)
  · obtain ⟨a, b, m, zs, rfl, _⟩ := h
    rfl
  obtain ⟨a, b, m, zs, rfl, hd, hm, ri, nba, gd, q⟩ := h
  unfold cap at hm
  refine ⟨_, (pss_cons (ps_set (i := 2) nd rfl (.inl rfl) (pe_lst pa_nil))
      (pss_cons (ps_for PassesOwn.never rfl (pi_range1 (by rfl) T.b_range (pa_cons (pe_call GR (hr.mono (by omega)) (by rfl) T.g_law_roll T.f_law_roll.kp T.n_law_roll .nil pass0 (pa_cons (pv 0) (pa_cons pe_int pa_nil))) pa_nil)) (pg_name (i := 3) nd rfl (.inl rfl)) (pss_cons (ps_asg (pe_call GD (hr.mono (by omega)) (by rfl) T.g_law_drawn_pair T.f_law_drawn_pair.kp T.n_law_drawn_pair .nil pass0 (pa_cons (pv 0) (pa_cons (pv 1) (pa_cons pe_int pa_nil)))) (pg_tup rfl (pgs_cons (pg_name (i := 4) nd rfl (.inl rfl)) (pgs_cons (pg_name (i := 5) nd rfl (.inl rfl)) pgs_nil))))
      (pss_cons (ps_set (i := 6) nd rfl (.inl rfl) (pe_call GR (hr.mono (by omega)) (by rfl) T.g_law_roll T.f_law_roll.kp T.n_law_roll .nil pass0 (pa_cons (pv 0) (pa_cons pe_int pa_nil))))
      (C8.pss_cut (ps_if (pt_cmpR op_eq (pv 6) pe_int (nomark _)) (pss_one (ps_expr (pe_bm PySem.F.plainAttrs_list PySem.F.slot_list_append PySem.F.type_list_append mt_append (pv 2) (pa_cons (pe_tup (pa_cons (pv 4) (pa_cons (pv 4) pa_nil))) pa_nil)))) (pss_one (ps_if (pt_cmpR op_lt (pv 6) pe_int (nomark _)) (pss_one (ps_expr (pe_bm PySem.F.plainAttrs_list PySem.F.slot_list_append PySem.F.type_list_append mt_append (pv 2) (pa_cons (pe_tup (pa_cons (pv 5) (pa_cons (pv 4) pa_nil))) pa_nil)))) (pss_one (ps_expr (pe_bm PySem.F.plainAttrs_list PySem.F.slot_list_append PySem.F.type_list_append mt_append (pv 2) (pa_cons (pe_tup (pa_cons (pv 4) (pa_cons (pv 5) pa_nil))) pa_nil)))))))
      (pss_one (ps_if (pt_cmpR op_eq (pv 6) pe_int (nomark _)) (pss_one (ps_expr (pe_bm PySem.F.plainAttrs_list PySem.F.slot_list_append PySem.F.type_list_append mt_append (pv 2) (pa_cons (pe_tup (pa_cons (pv 5) (pa_cons (pv 4) pa_nil))) pa_nil)))) pss_nil))))))
      (pss_one (ps_ret (pe_call GM (hr.mono (by omega)) (by rfl) T.g_law_mixed T.f_law_mixed.kp T.n_law_mixed .nil pass0 (pa_cons (pv 0) (pa_cons (pv 2) pa_nil))))))), ?_⟩
  refine ⟨Nat.zero_le _, fun f nf => ?_⟩
  have s0 := same_put (o := .lst []) nf
  have nfa := hd.ne nf
  have ef0 : (upd H f (.lst [])) f = some (.lst []) := upd_same
  refine ⟨_, rfl, a, m, 6, rfl, hd.up s0, by unfold cap; omega, by decide, by decide, fun r H1 b1 d1 r0 r1 => ?_⟩
  obtain ⟨k, rfl⟩ := Int.eq_ofNat_of_zero_le r0
  have k5 : k ≤ 5 := by omega
  refine ⟨(k : Int), rfl, by omega, by omega, ?_⟩
  rw [Int.toNat_natCast]
  have butp : ∀ {G : Hp} {o : HO}, But a H G → But a H (upd G f o) := fun {G o} h z u hz nz => by
    rw [upd_ne (ne_of_none hz nf)]
    exact h z u hz nz
  refine for_range (fun i σ G => But a H G ∧ Dice G a (m + 1 + 321 * i) ∧ RowsIn G b zs ∧ ∃ us ds y3 y4 y5 y6, σ = [some (.ref a), some (.ref b), some (.ref f), y3, y4, y5, y6] ∧ G f = some (.lst us) ∧ DxAll K G us ds ∧ (∀ z, z ∈ ds → Cp (zs.map Prod.snd) 3 z) ∧ ds.length ≤ 2 * i) ⟨(But.of s0).trans b1, d1, (ri.up s0).but b1 (hd.up s0) nba, [], [], none, none, none, none, rfl, b1 _ _ ef0 nfa, .nil, (fun z hz => nomatch hz), Nat.le_refl _⟩ ?_ ?_
  · rintro i σ G hi ⟨bG, dG, rG, us, ds, y3, y4, y5, y6, rfl, ef, dx, cp, ld⟩
    have hi : i < k := hi
    refine ⟨_, rfl, _, rfl, a, b, m + 1 + 321 * i, zs, rfl, by decide, by decide, dG, by unfold cap; omega, rG, nba, gd, fun x d G1 b2 d2 dxp hp => ?_⟩
    obtain ⟨c, e, rfl, tc, te, _⟩ := hp.ex
    obtain ⟨p5, u5, v5, rfl, hp5, du5, dv5⟩ := dx_couple dxp
    have dxA := DxAll.ts (Tups.but b2 dG) _ _ (cp_pure cp) dx
    have efA := b2 _ _ ef nfa
    have rA := rG.but b2 dG nba
    refine ⟨p5, _, rfl, SqT.of hp5, rfl, _, _, rfl, _, _, rfl, rfl, ?_⟩
    refine ⟨_, rfl, a, m + 1 + 321 * i + 320, 6, rfl, d2, by unfold cap; omega, by decide, by decide, fun w6 G2 b3 d3 w0 w1 => ?_⟩
    have tb := Tups.but b3 d2
    have dxB := DxAll.ts tb _ _ (cp_pure cp) dxA
    have efB := b3 _ _ efA nfa
    have rB := rA.but b3 d2 nba
    have duB := Dx.ts tb _ _ (pure_formed _ tc.fm) du5
    have dvB := Dx.ts tb _ _ (pure_formed _ te.fm) dv5
    have bB := bG.trans (b2.trans b3)
    have lu := dxB.length
    have add : ∀ {G : Hp} {us : List V} {ds : List PyData} {k : Addr} {x y : V} {g h : PyData}, But a H G → Dice G a (m + 1 + 321 * i + 321) → RowsIn G b zs → G f = some (.lst us) → DxAll K G us ds → (∀ z, z ∈ ds → Cp (zs.map Prod.snd) 3 z) → G k = none → Dx K G x g → Dx K G y h → Tm (zs.map Prod.snd) 3 g → Tm (zs.map Prod.snd) 3 h →
        But a H (upd (upd G k (.tup [x, y])) f (.lst (us ++ [.ref k]))) ∧ Dice (upd (upd G k (.tup [x, y])) f (.lst (us ++ [.ref k]))) a (m + 1 + 321 * i + 321) ∧ RowsIn (upd (upd G k (.tup [x, y])) f (.lst (us ++ [.ref k]))) b zs ∧ DxAll K (upd (upd G k (.tup [x, y])) f (.lst (us ++ [.ref k]))) (us ++ [.ref k]) (ds ++ [.tuple [g, h]]) ∧ (∀ z, z ∈ ds ++ [PyData.tuple [g, h]] → Cp (zs.map Prod.snd) 3 z) ∧ (∀ {x' : V} {d' : PyData}, Dx K G x' d' → formedD d' = true → Dx K (upd (upd G k (.tup [x, y])) f (.lst (us ++ [.ref k]))) x' d') := fun {G us ds k x y g h} bG dG rG ef dx cp nk dg dh tg th => by
      have sk := same_put (o := .tup [x, y]) nk
      have nfb : b ≠ f := fun z => by
        have := ri.1
        rw [z, nf] at this
        cases this
      refine ⟨butp (bG.trans (But.of sk)), (dG.up sk).put nfa, ?_, put_cp ef dx cp dg dh tg th nk, fun z hz => ?_, fun {x' d'} dd fd => Dx.ts ((Tups.of sk).trans (Tups.lst (sk _ _ ef))) _ _ (pure_formed _ fd) dd⟩
      · have r2 := rG.up sk
        exact r2.off (sk _ _ ef) nfb.symm
      · rcases List.mem_append.mp hz with hz | hz
        · exact cp z hz
        · rw [List.mem_singleton.mp hz]
          exact ⟨g, h, rfl, tg, th⟩
    refine ⟨fun σ' G => But a H G ∧ Dice G a (m + 1 + 321 * i + 321) ∧ RowsIn G b zs ∧ ∃ us ds y3, σ' = [some (.ref a), some (.ref b), some (.ref f), y3, some u5, some v5, some (.int w6)] ∧ G f = some (.lst us) ∧ DxAll K G us ds ∧ (∀ z, z ∈ ds → Cp (zs.map Prod.snd) 3 z) ∧ ds.length ≤ 2 * i + 1 ∧ Dx K G u5 c ∧ Dx K G v5 e, ?_, ?_⟩
    · have one : ∀ {x y : V} {g h : PyData} {q : Addr}, G2 q = none → Dx K G2 x g → Dx K G2 y h → Tm (zs.map Prod.snd) 3 g → Tm (zs.map Prod.snd) 3 h → ∀ σ0 : L2.St, σ0 = [some (.ref a), some (.ref b), some (.ref f), some (.int ((0 : Int) + i)), some u5, some v5, some (.int w6)] → But a H (upd (upd G2 q (.tup [x, y])) f (.lst (us ++ [.ref q]))) ∧ Dice (upd (upd G2 q (.tup [x, y])) f (.lst (us ++ [.ref q]))) a (m + 1 + 321 * i + 321) ∧ RowsIn (upd (upd G2 q (.tup [x, y])) f (.lst (us ++ [.ref q]))) b zs ∧ ∃ us' ds' y3, σ0 = [some (.ref a), some (.ref b), some (.ref f), y3, some u5, some v5, some (.int w6)] ∧ (upd (upd G2 q (.tup [x, y])) f (.lst (us ++ [.ref q]))) f = some (.lst us') ∧ DxAll K (upd (upd G2 q (.tup [x, y])) f (.lst (us ++ [.ref q]))) us' ds' ∧ (∀ z, z ∈ ds' → Cp (zs.map Prod.snd) 3 z) ∧ ds'.length ≤ 2 * i + 1 ∧ Dx K (upd (upd G2 q (.tup [x, y])) f (.lst (us ++ [.ref q]))) u5 c ∧ Dx K (upd (upd G2 q (.tup [x, y])) f (.lst (us ++ [.ref q]))) v5 e := fun {x y g h q} nq dg dh tg th σ0 eσ => by
        obtain ⟨z1, z2, z3, z4, z5, z6⟩ := add bB (d3.le (by omega)) rB efB dxB cp nq dg dh tg th
        exact ⟨z1, z2, z3, _, _, _, eσ, upd_same, z4, z5, by rw [List.length_append]; show ds.length + 1 ≤ _; omega, z6 duB tc.fm, z6 dvB te.fm⟩
      refine ⟨_, rfl, rfl, _, rfl, ite2 (fun _ => ?_) (fun _ => ?_)⟩
      · exact ⟨_, rfl, .inl ⟨rfl, _, SqL.of efB⟩, _, rfl, _, rfl, by show 2 ≤ sizeLine; decide, fun q nq => ⟨f, us, .ref q, rfl, rfl, same_put nq _ _ efB, small1000 (by omega), one nq duB duB tc tc _ rfl⟩⟩
      · refine ⟨_, rfl, _, _, rfl, rfl, _, rfl, ite2 (fun _ => ?_) (fun _ => ?_)⟩
        · exact ⟨_, rfl, .inl ⟨rfl, _, SqL.of efB⟩, _, rfl, _, rfl, by show 2 ≤ sizeLine; decide, fun q nq => ⟨f, us, .ref q, rfl, rfl, same_put nq _ _ efB, small1000 (by omega), one nq dvB duB te tc _ rfl⟩⟩
        · exact ⟨_, rfl, .inl ⟨rfl, _, SqL.of efB⟩, _, rfl, _, rfl, by show 2 ≤ sizeLine; decide, fun q nq => ⟨f, us, .ref q, rfl, rfl, same_put nq _ _ efB, small1000 (by omega), one nq duB dvB tc te _ rfl⟩⟩
    · rintro σ3 G3 ⟨bC, dC, rC, us3, ds3, y3', rfl, ef3, dx3, cp3, ld3, du3, dv3⟩
      have lu3 := dx3.length
      refine ⟨_, rfl, rfl, _, rfl, ite2 (fun _ => ?_) (fun _ => ?_)⟩
      · refine ⟨_, rfl, .inl ⟨rfl, _, SqL.of ef3⟩, _, rfl, _, rfl, by show 2 ≤ sizeLine; decide, fun q nq => ⟨f, us3, .ref q, rfl, rfl, same_put nq _ _ ef3, small1000 (by omega), ?_⟩⟩
        obtain ⟨z1, z2, z3, z4, z5, z6⟩ := add bC dC rC ef3 dx3 cp3 nq dv3 du3 te tc
        exact ⟨z1, z2.le (by omega), z3, _, _, _, _, _, _, rfl, upd_same, z4, z5, by rw [List.length_append]; show ds3.length + 1 ≤ _; omega⟩
      · exact ⟨bC, dC.le (by omega), rC, us3, ds3, _, _, _, _, rfl, ef3, dx3, cp3, by omega⟩
  · rintro σ G ⟨bG, dG, rG, us, ds, y3, y4, y5, y6, rfl, ef, dx, cp, ld⟩
    have lu := dx.length
    refine ⟨_, rfl, _, rfl, a, f, m + 1 + 321 * k, us, rfl, dG, by unfold cap; omega, SqL.of ef, nfa, by omega, fun ys p H2 b2 d2 pm np npa ep => ?_⟩
    obtain ⟨ds', dx', pd⟩ := dx_perm pm.symm (DxAll.ts (Tups.but b2 dG) _ _ (cp_pure cp) dx)
    exact q p ys ds' H2 (bG.trans b2) (d2.le (by omega)) npa (bG.free npa np) ep dx' (fun z hz => cp z (pd.mem_iff.mp hz)) (by rw [pd.length_eq]; omega)
end
end K11
/-! _law_ten. -/
namespace K11
open PySem PySem.Spec PyProof.Rows L2 Kx
section
variable {P : Program} {w : World} {K : PySem.W.Frag} {mg : Str → Option Value} {base : Heap}
def spTen (K : PySem.W.Frag) : Sp := fun vs H Q _ => ∃ (x : V) (a : Addr) (u0 u1 u2 u3 u4 u5 u6 u7 u8 u9 : V) (rest : List V) (ds : List PyData) (e : PyData), vs = [x, .ref a] ∧ SqL K H a (u0 :: u1 :: u2 :: u3 :: u4 :: u5 :: u6 :: u7 :: u8 :: u9 :: rest) ∧ rest.length ≤ 100 ∧ DxAll K H [u0, u1, u2, u3, u4, u5, u6, u7, u8, u9] ds ∧ Dx K H x e ∧ shortAll (ds ++ endOf e) = true ∧ szAll (ds ++ endOf e) ≤ 10000 ∧ couplesD (ds ++ endOf e) = true ∧
  ∀ y r H', Same H H' → Dx K H' y r → FoD ds e r → r ≠ .none ∧ (r ≠ .none → Q y H')
theorem ok_ten (T : Tx K mg) : FnOk P w K mg base CX0 8 T.a_law_ten T.d_law_ten ["told", "some"] (spTen K) := by
  have nd := sc__law_ten.nd
  have GM := ok_mf (P := P) (w := w) (base := base) T
  refine T.f_law_ten.ok sc__law_ten (fun vs H Q E h => ?_) (fun cdv A outer s H vs Q E hr h => ?_)
  · obtain ⟨x, a, _, _, _, _, _, _, _, _, _, _, _, _, _, rfl, _⟩ := h
    rfl
  obtain ⟨x, a, u0, u1, u2, u3, u4, u5, u6, u7, u8, u9, rest, ds, e, rfl, ha, lr, dx, de, sh, sz, cp, q⟩ := h
  refine ⟨_, (pss_cons (ps_asg (pe_slice sl_list (pv 1) po_none (po_some pe_int)) (pg_unl rfl (pgs_cons (pg_name (i := 2) nd rfl (.inl rfl)) (pgs_cons (pg_name (i := 3) nd rfl (.inl rfl)) (pgs_cons (pg_name (i := 4) nd rfl (.inl rfl)) (pgs_cons (pg_name (i := 5) nd rfl (.inl rfl)) (pgs_cons (pg_name (i := 6) nd rfl (.inl rfl)) (pgs_cons (pg_name (i := 7) nd rfl (.inl rfl)) pgs_nil))))))))
      (pss_one (ps_ret (pe_callR (E := E0) GM (hr.mono (by omega)) (by rfl) T.gmake_fact T.fmake_fact.kp (passes_call takes00 (fun _ _ _ _ h => h)) (pa_cons (pv 0) (pa_cons (pv 2) (pa_cons (pv 3) (pa_cons (pv 4) (pa_cons (pv 5) (pa_cons (pv 6) (pa_cons (pv 7) (pa_cons (pe_ix ix_list (pv 1) pe_int (fun _ _ => rfl)) (pa_cons (pe_ix ix_list (pv 1) pe_int (fun _ _ => rfl)) (pa_cons (pe_ix ix_list (pv 1) pe_int (fun _ _ => rfl)) (pa_cons (pe_ix ix_list (pv 1) pe_int (fun _ _ => rfl)) pa_nil))))))))))))))), ?_⟩
  refine ⟨_, rfl, 6, rfl, a, _, rfl, ha, fun p np => ?_⟩
  have s1 := same_put (o := .lst (cutV (u0 :: u1 :: u2 :: u3 :: u4 :: u5 :: u6 :: u7 :: u8 :: u9 :: rest) none (some 6))) np
  have ec : cutV (u0 :: u1 :: u2 :: u3 :: u4 :: u5 :: u6 :: u7 :: u8 :: u9 :: rest) none (some 6) = [u0, u1, u2, u3, u4, u5] := by
    rw [cut_upto (by decide)]
    rfl
  rw [ec] at s1 ⊢
  refine ⟨p, _, rfl, SqL.of upd_same, rfl, _, _, rfl, _, _, rfl, _, _, rfl, _, _, rfl, _, _, rfl, _, _, rfl, rfl, ?_⟩
  have ha1 := s1.seq ha
  refine ⟨_, rfl, _, rfl, _, rfl, _, rfl, _, rfl, _, rfl, _, rfl, _, rfl, a, _, 6, u6, rfl, rfl, ha1, atI_nat (j := 6) rfl, _, rfl, a, _, 7, u7, rfl, rfl, ha1, atI_nat (j := 7) rfl, _, rfl, a, _, 8, u8, rfl, rfl, ha1, atI_nat (j := 8) rfl, _, rfl, a, _, 9, u9, rfl, rfl, ha1, atI_nat (j := 9) rfl, ?_⟩
  refine ⟨[x], [u0, u1, u2, u3, u4, u5, u6, u7, u8, u9], rfl, rfl, by show 10 ≤ sizeLine; decide, fun t nt => ?_⟩
  have s2 := s1.trans (same_put (o := .tup [u0, u1, u2, u3, u4, u5, u6, u7, u8, u9]) nt)
  have ld := dx.length
  exact ⟨x, e, t, _, ds, rfl, upd_same, de.up s2, dx.up s2, sh, sz, by rw [← ld]; show 10 ≤ 100; decide, cp, fun y r H' s' dy fo => q y r H' (s2.trans s') dy fo⟩
end
end K11
/-! What is no fact. -/
namespace K11
open PySem PySem.Spec PyProof.Rows L2 Kx
theorem no_list {ps : List PyData} {c : PyData} : factD (.tuple [.list ps, c]) = false := rfl
theorem no_whole {ds : List PyData} : factD (.list ds) = false := rfl
theorem no_three {a b c : PyData} : factD (.tuple [a, b, c]) = false := by cases a <;> rfl
theorem bad_couple {ds : List PyData} {z : PyData} (h : z ∈ ds) (n : coupleD z = false) : couplesD ds = false := by
  have : ds.all coupleD = false := by
    rw [List.all_eq_false]
    exact ⟨z, h, by rw [n]; simp⟩
  simp [couplesD, this]
theorem no_couples {ps : List PyData} {c : PyData} (h : couplesD (ps ++ endOf c) = false) : factD (.tuple [.tuple ps, c]) = false := by
  show (couplesD (ps ++ endOf c) && _) = false
  rw [h]
  rfl
theorem no_empty {ps : List PyData} : factD (.tuple [.tuple ps, .tuple []]) = false := no_couples (bad_couple (z := .tuple []) (by simp [endOf]) rfl)
theorem no_order {ps : List PyData} {c z : PyData} (m : z ∈ ps ++ endOf c) (h : ordC z = false) : factD (.tuple [.tuple ps, c]) = false := by
  have : (ps ++ endOf c).all ordC = false := by
    rw [List.all_eq_false]
    exact ⟨z, m, by rw [h]; simp⟩
  show (couplesD (ps ++ endOf c) && ((ps ++ endOf c).all ordC && chainD (ps.map keyC))) = false
  rw [this, Bool.false_and, Bool.and_false]
theorem no_chain {ps : List PyData} {c : PyData} (h : chainD (ps.map keyC) = false) : factD (.tuple [.tuple ps, c]) = false := by
  show (couplesD (ps ++ endOf c) && ((ps ++ endOf c).all ordC && chainD (ps.map keyC))) = false
  rw [h, Bool.and_false, Bool.and_false]
/-- told in the place of the conditions -/
theorem no_turned {a b : PyData} {ps : List PyData} (ha : formedD a = true) : factD (.tuple [.tuple [a, b], .tuple ps]) = false := by
  refine no_couples ?_
  obtain ⟨x, ds, rfl, _⟩ := formed_shape ha
  cases hc : coupleD (.tuple (.str x :: ds)) with
  | false => exact bad_couple (z := .tuple (.str x :: ds)) (by simp) hc
  | true =>
    have hj : jointD (sidesD ([.tuple (.str x :: ds), b] ++ endOf (.tuple ps))) = false := by
      have : formedAll (sidesD ([.tuple (.str x :: ds), b] ++ endOf (.tuple ps))) = false := by
        cases hf : formedAll (sidesD ([.tuple (.str x :: ds), b] ++ endOf (.tuple ps))) with
        | false => rfl
        | true =>
          have m : PyData.str x ∈ sidesD ([.tuple (.str x :: ds), b] ++ endOf (.tuple ps)) := by
            refine List.mem_flatMap.mpr ⟨_, List.mem_append_left _ List.mem_cons_self, ?_⟩
            match ds, hc with
            | [d], _ => simp [sidesOf]
          have := formed_mem hf _ m
          cases this
      unfold jointD
      rw [this]
      rfl
    rw [couplesD, hj, Bool.and_false]
theorem chain_get : ∀ {ks : List PyData} (i : Nat) {a b : PyData}, chainD ks = true → ks[i]? = some a → ks[i + 1]? = some b → ltR a b
  | [], _, _, _, _, h, _ => by simp at h
  | [x], 0, _, _, _, _, h => by simp at h
  | [x], i + 1, _, _, _, h, _ => by simp at h
  | x :: y :: l, i, a, b, h, ha, hb => by
    have e : chainD (x :: y :: l) = (PySem.W.dataLt x y && chainD (y :: l)) := by simp [chainD]
    rw [e, Bool.and_eq_true] at h
    cases i with
    | zero =>
      simp at ha hb
      subst ha hb
      exact h.1
    | succ i => exact chain_get i h.2 (by simpa using ha) (by simpa using hb)
/-- the last condition twice -/
theorem no_dup {ps : List PyData} {z c : PyData} : factD (.tuple [.tuple (ps ++ [z] ++ [z]), c]) = false := by
  refine no_chain ?_
  cases h : chainD ((ps ++ [z] ++ [z]).map keyC) with
  | false => rfl
  | true =>
    refine absurd (chain_get ps.length (a := keyC z) (b := keyC z) h ?_ ?_) (ltR_irrefl _)
    · rw [List.map_append, List.map_append, List.append_assoc, List.getElem?_append_right (by rw [List.length_map]; exact Nat.le_refl _), List.length_map, Nat.sub_self]
      rfl
    · rw [List.map_append, List.map_append, List.append_assoc, List.getElem?_append_right (by rw [List.length_map]; omega), List.length_map, show ps.length + 1 - ps.length = 1 by omega]
      rfl
/-- the conditions turned round -/
theorem no_rev {L : List PyData} {c : PyData} (h : factD (.tuple [.tuple L, c]) = true) (l : 2 ≤ L.length) : factD (.tuple [.tuple L.reverse, c]) = false := by
  have h : (couplesD (L ++ endOf c) && ((L ++ endOf c).all ordC && chainD (L.map keyC))) = true := h
  rw [Bool.and_eq_true, Bool.and_eq_true] at h
  refine no_chain ?_
  cases h2 : chainD (L.reverse.map keyC) with
  | false => rfl
  | true =>
    match L, l, h.2.2, h2 with
    | x :: y :: L, _, h1, h2 =>
      have a1 := chain_get 0 (a := keyC x) (b := keyC y) h1 rfl rfl
      have a2 := chain_get L.length (a := keyC y) (b := keyC x) h2 (by
        rw [List.reverse_cons, List.reverse_cons, List.append_assoc, List.map_append, List.getElem?_append_right (by simp)]
        simp) (by
        rw [List.reverse_cons, List.reverse_cons, List.append_assoc, List.map_append, List.getElem?_append_right (by simp)]
        simp)
      exact absurd a2 fun z => ltR_asymm a1 z
end K11
/-! t[::-1] of a tuple. -/
namespace Kx
open PySem PySem.Spec PyProof.Rows L2 HT
section
variable {prog : Program} {w : World} {A : Around} {E : Value → Shared → Prop} {s : Shared}
theorem revt_adjust (n : Nat) : Builtin.Slice.sliceAdjust none none (-1) (n : Int) = ((n : Int) - 1, -1) := by
  have neg : (-1 : Int) < 0 := by decide
  unfold Builtin.Slice.sliceAdjust
  simp only [neg, if_true]
theorem revt_places (n : Nat) : Builtin.Slice.slicePlaces ((n : Int) - 1) (-1) (-1) = n := by
  unfold Builtin.Slice.slicePlaces
  have no : ¬ ((-1 : Int) > 0) := by decide
  simp only [no, if_false]
  rw [show -(-1 : Int) = 1 from rfl, Int.ediv_one]
  split <;> omega
theorem fm_congr {α β : Type} {f g : α → Option β} : ∀ {l : List α}, (∀ x, x ∈ l → f x = g x) → l.filterMap f = l.filterMap g
  | [], _ => rfl
  | x :: l, h => by
    rw [List.filterMap_cons, List.filterMap_cons, h x List.mem_cons_self, fm_congr fun y hy => h y (List.mem_cons_of_mem _ hy)]
theorem revt_pick (xs : List Value) : ((List.range xs.length).filterMap fun (m : Nat) => xs.toArray[((xs.length : Int) - 1 + (m : Int) * -1).toNat]?) = xs.reverse := by
  have e : (List.range xs.length).filterMap (fun (m : Nat) => xs.toArray[((xs.length : Int) - 1 + (m : Int) * -1).toNat]?) = ((List.range xs.length).map fun k => xs.length - 1 - k).filterMap fun m => xs.toArray[m]? := by
    rw [List.filterMap_map]
    refine fm_congr fun m hm => ?_
    have := List.mem_range.mp hm
    rw [show ((xs.length : Int) - 1 + (m : Int) * -1).toNat = xs.length - 1 - m by omega]
    rfl
  rw [e, PySem.W.krv_range, List.filterMap_reverse]
  have := PySem.W.krv_all xs.toArray
  rw [List.size_toArray] at this
  rw [this]
theorem revt_applied {sl : Addr} {vl vu vs : Value} {n : Nat} {Q : Int × Int × Nat → Shared → Prop} (hs : s.heap.IsSliceOf sl vl vu vs) (pl : IsPart vl none) (pu : IsPart vu none) (ps : IsPart vs (some (-1)))
    (h : Q ((n : Int) - 1, -1, n) s) : wpAny (model prog w) A (Builtin.Slice.sliceApplied (.ref sl) (pure (n : Int))) Q E s := by
  obtain ⟨ob, h1, h2, h3⟩ := id hs
  unfold Builtin.Slice.sliceApplied Builtin.Slice.sliceFields
  refine wpAny_bind (wpAny_bind (wpAny_field h1 h3 (x := vl) rfl (wpAny_bind (wpAny_field h1 h3 (x := vu) rfl (wpAny_bind (wpAny_field h1 h3 (x := vs) rfl (wpAny_pure ?_)))))))
  refine wpAny_bind (slicePart_ ps ?_)
  show wpAny _ _ (if ((-1 : Int) == 0) = true then _ else _) _ _ s
  rw [if_neg (by decide)]
  refine wpAny_bind (slicePart_ pl (wpAny_bind (slicePart_ pu (wpAny_bind (wpAny_pure ?_)))))
  show wpAny _ _ (match Builtin.Slice.sliceAdjust none none (-1) (n : Int) with | (lo, hi) => pure (lo, (-1 : Int), Builtin.Slice.slicePlaces lo hi (-1))) _ _ s
  rw [revt_adjust n]
  show wpAny _ _ (pure ((n : Int) - 1, (-1 : Int), Builtin.Slice.slicePlaces ((n : Int) - 1) (-1) (-1))) _ _ s
  rw [revt_places n]
  exact wpAny_pure h
theorem getItem_revt {t sl : Addr} {xs : List Value} {vl vu vs : Value} {Q : Value → Shared → Prop} (ht : IsTup s.heap t xs.toArray) (hz : xs.length ≤ sizeLine) (hs : s.heap.IsSliceOf sl vl vu vs) (pl : IsPart vl none) (pu : IsPart vu none) (ps : IsPart vs (some (-1)))
    (h : Q (.ref s.heap.objs.size) { s with heap := s.heap.push { cls := .type "tuple", data := .seq xs.reverse.toArray } }) : wpAny (model prog w) A (getItem (.ref t) (.ref sl)) Q E s := by
  have few : sizeOk (.seq xs.reverse.toArray) := by
    show xs.reverse.toArray.size ≤ sizeLine
    rw [List.size_toArray, List.length_reverse]
    exact hz
  obtain ⟨ob, ho, hc, hd⟩ := id hs
  have isS : s.TypeIs (.ref sl) "slice" := ⟨ob, ho, hc⟩
  unfold getItem
  try with_reducible refine wpAny_holding ?_
  first | refine wpAny_bind (wpAny_pure ?_) | skip
  refine wpAny_bind (wpAny_sequenceKey ht.typeIs (by decide) ?_)
  refine wpAny_bind (wpAny_callSpecial?_slot (name := Str.ofString "__getitem__") ht.typeIs PyProof.Rows.slot_tuple_getitem
    (wpAny_call_entry PyProof.Rows.slot_tuple_getitem ht.typeIs entry_tuple_getitem ?_ (args_tuple_getitem _ _)))
  show wpAny _ _ (Builtin.Tuple.tupleItemsOf (.ref t) >>= _) _ _ s
  refine wpAny_bind (tupleItemsOf_ ht ?_)
  refine wpAny_bind (wpAny_typeOf isS ?_)
  rw [if_pos (by decide)]
  have sz : xs.toArray.size = xs.length := List.size_toArray ..
  refine wpAny_bind (revt_applied (n := xs.toArray.size) hs pl pu ps ?_)
  rw [sz]
  have no : ¬ ((((xs.length : Int) - 1) == 0 && (-1 : Int) == 1 && xs.length == xs.length) = true) := by simp
  show wpAny _ _ (if (((xs.length : Int) - 1) == 0 && (-1 : Int) == 1 && xs.length == xs.length) = true then _ else _) _ _ s
  rw [if_neg no, revt_pick]
  first
    | exact wpAny_bind (m := Builtin.Tuple.tupleExact _) (wpAny_newObj_type (wpAny_pure ⟨_, rfl, wpAny_pure h⟩) few)
    | exact wpAny_bind (m := Builtin.Tuple.tupleExact _) (wpAny_newObj_type (wpAny_bind (wpAny_pure (wpAny_pure ⟨_, rfl, wpAny_pure h⟩))) few)
    | exact wpAny_bind (wpAny_bind (m := Builtin.Tuple.tupleExact _) (wpAny_newObj_type (wpAny_pure (wpAny_pure ⟨_, rfl, wpAny_pure h⟩)) few))
    | exact wpAny_bind (wpAny_bind (m := Builtin.Tuple.tupleExact _) (wpAny_newObj_type (wpAny_pure ⟨_, rfl, wpAny_pure h⟩) few))
end
/-- t[::-1] -/
def tRevT (K : PySem.W.Frag) (te : TE) : TE := fun σ H Q => te σ H fun x H1 => ∃ a xs, x = .ref a ∧ SqT K H1 a xs ∧ ∀ p, H1 p = none → Q (.ref p) (upd H1 p (.tup xs.reverse))
section
variable {X : Cx}
theorem pe_revT {e : Expr} {te : TE} {k : Nat} {p1 p2 p3 pos : Pos} (he : PE X e te) : PE X (.Subscript e (.Slice none none (some (.UnaryOp .USub (.Constant (.int 1) k p1) p2)) p3) pos) (tRevT X.K te) := by
  refine ⟨fun pins s σ H Q I h => ?_⟩
  refine Subscript_ (thn (he.run pins s σ H _ I h) fun v s1 ⟨x, H1, I1, r1, q1⟩ => ?_)
  obtain ⟨a, xs, ex, hx, q⟩ := q1
  subst ex
  cases r1
  have hst : PO X (some (.UnaryOp .USub (.Constant (.int 1) k p1) p2)) (tPart (tUn (rU fun i => .int (-i)) (tC (.int 1)))) := po_some (pe_un un_neg pe_int)
  refine wpAny_Slice (thn (po_none.run pins s1 σ H1 (fun o G => o = none ∧ G = H1) I1 ⟨rfl, rfl⟩) fun vl s2 ⟨l, H2, I2, pl, el, e2⟩ => ?_)
  subst el e2
  refine thn (po_none.run pins s2 σ H2 (fun o G => o = none ∧ G = H2) I2 ⟨rfl, rfl⟩) fun vu s3 ⟨u, H3, I3, pu, eu, e3⟩ => ?_
  subst eu e3
  refine thn (hst.run pins s3 σ H3 (fun o G => o = some (-1) ∧ G = H3) I3 ⟨1, rfl, -1, rfl, rfl, rfl⟩) fun vs s4 ⟨o, H4, I4, ps, eo, e4⟩ => ?_
  subst eo e4
  have I5 : Inv X pins σ H4 { s4 with heap := s4.heap.push { cls := .type "slice", data := .fields #[vl, vu, vs] } } := I4.kept (t' := s4.toks) fun b ob q => Heap.get?_push_of_some _ q
  obtain ⟨its, r, ht, hz⟩ := I5.tuple hx
  have hlen := r.length
  show wpAny (model X.prog X.w) X.A (subscriptTail e (.Slice none none (some (.UnaryOp .USub (.Constant (.int 1) k p1) p2)) p3) (.ref a) (.ref s4.heap.objs.size)) (EP X pins σ Q) X.xe { s4 with heap := s4.heap.push { cls := .type "slice", data := .fields #[vl, vu, vs] } }
  refine tail_any (ops := [.ref a, .ref s4.heap.objs.size]) ht.typeIs (PyProof.Rows.slot_tuple_getitem.lookup) ?_ (by with_unfolding_all rfl)
  refine getItem_revt ht (by rw [← hlen]; exact hz) (Heap.IsSliceOf.new _ vl vu vs) pl pu ps ?_
  refine ⟨.ref _, _, I5.laid (t' := s4.toks) (o := .tup xs.reverse) (fun b ob q => Heap.get?_push_of_some _ q) (Nat.le_refl _) ?_, rfl, q _ (I5.hok.fresh (Nat.le_refl _))⟩
  exact ⟨by rw [List.length_reverse]; exact hz, _, r.reverse, IsTup.new _ _⟩
end
end Kx
/-! Displays over known data. -/
namespace Kx
open PySem PySem.Spec PyProof.Rows L2
/-- te makes d, from the heap H0 on -/
def MkH (K : PySem.W.Frag) (σ : L2.St) (H0 : Hp) (te : TE) (d : PyData) : Prop := ∀ (H : Hp) (Q : VK), Same H0 H → (∀ x H', Same H H' → Dx K H' x d → Q x H') → te σ H Q
def MkHs (K : PySem.W.Frag) (σ : L2.St) (H0 : Hp) (ta : TA) (ds : List PyData) : Prop := ∀ (H : Hp) (Q : List V → Hp → Prop), Same H0 H → (∀ xs H', Same H H' → DxAll K H' xs ds → Q xs H') → ta σ H Q
theorem le100 {n : Nat} (h : Nat.ble n 100 = true) : n ≤ 100 := Nat.le_of_ble_eq_true h
abbrev rLst1 (K : PySem.W.Frag) : List V → Hp → VK → Prop := fun vs H Q => ∃ a xs, vs = [V.ref a] ∧ (SqL K H a xs ∨ SqT K H a xs) ∧ ∀ l, H l = none → Q (.ref l) (upd H l (.lst xs))
section
variable {K : PySem.W.Frag} {σ : L2.St} {H0 : Hp} {te t1 t2 t3 : TE} {ta : TA} {d e c : PyData} {ds es : List PyData} {C : Addr} {E : XK}
theorem MkH.up {H1 : Hp} (h : MkH K σ H0 te d) (s : Same H0 H1) : MkH K σ H1 te d := fun H Q s' q => h H Q (s.trans s') q
theorem mh_var {i : Nat} {x : V} (h : σ[i]? = some (some x)) (dx : Dx K H0 x d) : MkH K σ H0 (tVar i) d := fun H Q s q => ⟨_, h, q _ H (Same.refl H) (dx.up s)⟩
theorem mh_str (x : Str) : MkH K σ H0 (tC (.str x)) (.str x) := fun H Q _ q => q _ H (Same.refl H) (.str x)
theorem mh_non : MkH K σ H0 (tC .non) .none := fun H Q _ q => q _ H (Same.refl H) .non
theorem mh_nil : MkHs K σ H0 tNil [] := fun H Q _ q => q _ H (Same.refl H) .nil
theorem mh_cons (h1 : MkH K σ H0 te d) (h2 : MkHs K σ H0 ta ds) : MkHs K σ H0 (tCons te ta) (d :: ds) := fun H Q s q =>
  h1 H _ s fun x H1 s1 d1 => h2 H1 _ (s.trans s1) fun xs H2 s2 d2 => q _ H2 (s1.trans s2) (.cons (d1.up s2) d2)
theorem mh_tup (h : MkHs K σ H0 ta ds) (few : ds.length ≤ 100) : MkH K σ H0 (tTup ta) (.tuple ds) := fun H Q s q =>
  h H _ s fun xs H1 s1 d1 => ⟨by rw [d1.length]; exact Nat.le_of_lt (small1000 (by omega)), fun p np => q _ _ (s1.trans (same_put np)) (.tup upd_same (d1.up (same_put np)))⟩
theorem mh_lst (h : MkHs K σ H0 ta ds) (few : ds.length ≤ 100) : MkH K σ H0 (tLst ta) (.list ds) := fun H Q s q =>
  h H _ s fun xs H1 s1 d1 => ⟨by rw [d1.length]; exact Nat.le_of_lt (small1000 (by omega)), fun p np => q _ _ (s1.trans (same_put np)) (.lst upd_same (d1.up (same_put np)))⟩
/-- an item of a tuple kept -/
theorem mh_ix {i j : Nat} {x : V} {d : PyData} {ds : List PyData} (h : σ[i]? = some (some x)) (dx : Dx K H0 x (.tuple ds)) (hd : ds[j]? = some d) : MkH K σ H0 (tOp (rIxT K) (tVar i) (tC (.int (j : Int)))) d := fun H Q s q => by
  cases dx.up s with
  | @tup a xs _ ha hs =>
  obtain ⟨v, hv, dv⟩ := hs.get hd
  exact ⟨_, h, a, xs, (j : Int), v, rfl, rfl, SqT.of ha, atI_nat hv, q v H (Same.refl H) dv⟩
/-- list(t) -/
theorem mh_list (h : MkH K σ H0 te (.tuple ds)) : MkH K σ H0 (tCB (rLst1 K) (tCons te tNil)) (.list ds) := fun H Q s q =>
  h H _ s fun x H1 s1 dx => by
    cases dx with
    | @tup a xs _ ha hs =>
    exact ⟨a, xs, rfl, .inr (SqT.of ha), fun l nl => q _ _ (s1.trans (same_put nl)) (.lst upd_same (hs.up (same_put nl)))⟩
/-- t + u -/
theorem mh_cat (h1 : MkH K σ H0 t1 (.tuple ds)) (h2 : MkH K σ H0 t2 (.tuple es)) (few : ds.length + es.length ≤ 1000) : MkH K σ H0 (tOp (rCatA K) t1 t2) (.tuple (ds ++ es)) := fun H Q s q =>
  h1 H _ s fun x H1 s1 dx => h2 H1 _ (s.trans s1) fun y H2 s2 dy => by
    cases dx.up s2 with
    | @tup a xs _ ha hs =>
    cases dy with
    | @tup b ys _ hb ht =>
    have l1 := hs.length
    have l2 := ht.length
    refine ⟨a, b, xs, ys, rfl, rfl, SqT.of ha, SqT.of hb, Nat.le_of_lt (small1000 (by omega)), fun e => ?_, fun _ e => ?_, fun _ _ p np => ?_⟩
    · subst e
      cases hs
      exact q _ _ (s1.trans s2) (.tup hb ht)
    · subst e
      cases ht
      rw [List.append_nil] at q
      exact q _ _ (s1.trans s2) (.tup ha hs)
    · exact q _ _ (s1.trans (s2.trans (same_put np))) (.tup upd_same ((hs.append ht).up (same_put np)))
theorem six_last {n : Nat} (h : 0 < n) : HT.sIx n 0 (some (-1)) = n - 1 := by
  show (if (-1 : Int) < 0 then ((-1 : Int) + (n : Int)).toNat else min (-1 : Int).toNat n) = n - 1
  rw [if_pos (by decide)]
  omega
/-- t[-1:] -/
theorem mh_last (h1 : MkH K σ H0 te (.tuple (ds ++ [d]))) : MkH K σ H0 (L2.tSl (rSlA K) te (tPart (tUn (rU fun i => V.int (-i)) (tC (.int 1)))) tNoPart) (.tuple [d]) := fun H Q s q =>
  h1 H _ s fun x H1 s1 dx => ⟨1, rfl, -1, rfl, by
    dsimp only [tNoPart]
    cases dx with
    | @tup a xs _ ha hs =>
    have l := hs.length
    rw [List.length_append, List.length_singleton] at l
    have hx := six_last (n := xs.length) (by omega)
    refine ⟨a, xs, rfl, SqT.of ha, fun z => ?_, fun _ p np => ?_⟩
    · rw [hx] at z
      have : ds = [] := List.eq_nil_of_length_eq_zero (by omega)
      subst this
      exact q _ _ s1 (.tup ha hs)
    · have e : cutV xs (some (-1)) none = xs.drop ds.length := by
        unfold cutV
        rw [hx, HT.sIx_none, List.take_of_length_le (by rw [List.length_drop]; omega)]
        congr 1
        omega
      rw [e]
      have hd := hs.drop ds.length
      rw [List.drop_left] at hd
      exact q _ _ (s1.trans (same_put np)) (.tup upd_same (hd.up (same_put np)))⟩
theorem DxAll.reverse' {H : Hp} : ∀ {xs : List V} {ds : List PyData}, DxAll K H xs ds → DxAll K H xs.reverse ds.reverse
  | _, _, .nil => .nil
  | _, _, .cons a b => by
    rw [List.reverse_cons, List.reverse_cons]
    exact DxAll.append (DxAll.reverse' b) (.cons a .nil)
/-- t[::-1] -/
theorem mh_rev (h1 : MkH K σ H0 te (.tuple ds)) : MkH K σ H0 (tRevT K te) (.tuple ds.reverse) := fun H Q s q =>
  h1 H _ s fun x H1 s1 dx => by
    cases dx with
    | @tup a xs _ ha hs =>
    exact ⟨a, xs, rfl, SqT.of ha, fun p np => q _ _ (s1.trans (same_put np)) (.tup upd_same ((DxAll.reverse' hs).up (same_put np)))⟩
/-- (a,) * 2 -/
theorem mh_two (h1 : MkH K σ H0 te (.tuple [d])) : MkH K σ H0 (tOp (rRepT K) te (tC (.int 2))) (.tuple [d, d]) := fun H Q s q =>
  h1 H _ s fun x H1 s1 dx => by
    cases dx with
    | @tup a xs _ ha hs =>
    cases hs with
    | @cons v vs _ _ hv hs =>
    cases hs
    exact ⟨a, 2, [v], rfl, rfl, SqT.of ha, by simp, by decide, by decide, by show 1 ≤ 1000; decide, fun p np => q _ _ (s1.trans (same_put np)) (.tup upd_same (.cons (hv.up (same_put np)) (.cons (hv.up (same_put np)) .nil)))⟩
theorem asg_mh {j : Nat} {rest : TS} {D : Ends} (m : MkH K σ H0 te d) (q : ∀ x H', Same H0 H' → Dx K H' x d → rest D (σ.set j (some x)) H') : tSeq (tAsg te (gName j)) rest D σ H0 := m H0 _ (Same.refl H0) q
theorem asg1_mh {j : Nat} {D : Ends} (m : MkH K σ H0 te d) (q : ∀ x H', Same H0 H' → Dx K H' x d → D.nx (σ.set j (some x)) H') : tAsg te (gName j) D σ H0 := m H0 _ (Same.refl H0) q
theorem seq_mh {g : TG} {rest : TS} {D : Ends} (m : MkH K σ H0 te d) (q : ∀ x H', Same H0 H' → Dx K H' x d → g x σ H' (fun σ2 H2 => rest D σ2 H2)) : tSeq (tAsg te g) rest D σ H0 := m H0 _ (Same.refl H0) q
/-- a test that comes out as b -/
def TsH (σ : L2.St) (H0 : Hp) (t : TT) (b : Bool) : Prop := ∀ (H : Hp) (Q : Bool → Hp → Prop), Same H0 H → (∀ H', Same H H' → Q b H') → t σ H Q
theorem TsH.up {H1 : Hp} {t : TT} {b : Bool} (h : TsH σ H0 t b) (s : Same H0 H1) : TsH σ H1 t b := fun H Q s' q => h H Q (s.trans s') q
theorem ts_orF {t1 t2 : TT} (h1 : TsH σ H0 t1 false) (h2 : TsH σ H0 t2 false) : TsH σ H0 (tOr t1 t2) false := fun H Q s q => h1 H _ s fun H1 s1 => h2 H1 _ (s.trans s1) fun H2 s2 => q H2 (s1.trans s2)
theorem ts_andF {t1 t2 : TT} (h1 : TsH σ H0 t1 false) : TsH σ H0 (tAnd t1 t2) false := fun H Q s q => h1 H _ s fun H1 s1 => q H1 s1
theorem ts_and {t1 t2 : TT} {b : Bool} (h1 : TsH σ H0 t1 true) (h2 : TsH σ H0 t2 b) : TsH σ H0 (tAnd t1 t2) b := fun H Q s q => h1 H _ s fun H1 s1 => h2 H1 _ (s.trans s1) fun H2 s2 => q H2 (s1.trans s2)
/-- an if whose test fails -/
theorem if_tsF {t : TT} {A rest : TS} {D : Ends} (h : TsH σ H0 t false) (q : ∀ H', Same H0 H' → rest D σ H') : tSeq (tIfS t A tNext) rest D σ H0 := h H0 _ (Same.refl H0) q
theorem if1_tsF {t : TT} {A : TS} {D : Ends} (h : TsH σ H0 t false) (q : ∀ H', Same H0 H' → D.nx σ H') : tIfS t A tNext D σ H0 := h H0 _ (Same.refl H0) q
end
end Kx
/-! _law_judged_right. -/
namespace K11
open PySem PySem.Spec PyProof.Rows L2 Kx
structure SmF (d : PyData) : Prop where
  sh : shortD d = true
  sz : szD d ≤ 10000
  few : ∀ ps e, d = .tuple [.tuple ps, e] → ps.length ≤ 100
theorem smf {ps : List PyData} {c : PyData} (h1 : shortAll ps = true) (h2 : szAll ps ≤ 5000) (h3 : ps.length ≤ 100) (h4 : shortD c = true) (h5 : szD c ≤ 3000) : SmF (.tuple [.tuple ps, c]) := by
  refine ⟨by simp [shortD, shortAll, h1, h4], by simp only [szD, szAll]; omega, fun ps' e he => ?_⟩
  simp only [PyData.tuple.injEq, List.cons.injEq, and_true] at he
  rw [← he.1]
  exact h3
section
variable {P : Program} {w : World} {K : PySem.W.Frag} {mg : Str → Option Value} {base : Heap} {σ : L2.St} {H0 : Hp} {te t1 t2 : TE} {d e : PyData} {b : Bool}
theorem ts_fact (m : MkH K σ H0 te d) (sm : SmF d) (e : factD d = b) : TsH σ H0 (tB (tCall (spFact K) [] E0 (tCons te tNil))) b := fun H Q s q =>
  m H _ s fun x H1 s1 dx => ⟨x, d, rfl, dx, sm.sh, sm.sz, sm.few, fun H2 s2 => ⟨_, rfl, by rw [e]; exact q H2 (s1.trans s2)⟩⟩
theorem ts_pair (m : MkH K σ H0 te d) (sh : shortD d = true) (sz : szD d ≤ 10000) (e : isPairD d = b) : TsH σ H0 (tB (tCall (spPair K) [] E0 (tCons te tNil))) b := fun H Q s q =>
  m H _ s fun x H1 s1 dx => ⟨x, d, rfl, dx, sh, sz, fun H2 s2 => ⟨_, rfl, by rw [e]; exact q H2 (s1.trans s2)⟩⟩
theorem ts_isPair (m : MkH K σ H0 te d) (sh : shortD d = true) (sz : szD d ≤ 10000) (e : isPairD d = true) : TsH σ H0 (tTest (tOp rNotB (tCall (spPair K) [] E0 (tCons te tNil)) (tC (.bl true)))) false := fun H Q s q =>
  m H _ s fun x H1 s1 dx => ⟨x, d, rfl, dx, sh, sz, fun H2 s2 => ⟨_, _, rfl, rfl, _, rfl, by rw [e]; exact q H2 (s1.trans s2)⟩⟩
theorem ts_isFact (m : MkH K σ H0 te d) (sm : SmF d) (e : factD d = true) : TsH σ H0 (tTest (tOp rNotB (tCall (spFact K) [] E0 (tCons te tNil)) (tC (.bl true)))) false := fun H Q s q =>
  m H _ s fun x H1 s1 dx => ⟨x, d, rfl, dx, sm.sh, sm.sz, sm.few, fun H2 s2 => ⟨_, _, rfl, rfl, _, rfl, by rw [e]; exact q H2 (s1.trans s2)⟩⟩
abbrev rNz : R2 := fun x y H Q => y = .non ∧ Q (.bl (!decide (x = .non))) H
theorem ts_none {i : Nat} {x : V} (h : σ[i]? = some (some x)) (e : x = .non) : TsH σ H0 (tTest (tOp rNz (tVar i) (tC .non))) false := fun H Q s q => ⟨_, h, rfl, _, rfl, by subst e; exact q H (Same.refl H)⟩
theorem ts_some {i : Nat} {x : V} (h : σ[i]? = some (some x)) (e : x ≠ .non) : TsH σ H0 (tTest (tOp rNz (tVar i) (tC .non))) true := fun H Q s q => ⟨_, h, rfl, _, rfl, by rw [decide_eq_false e]; exact q H (Same.refl H)⟩
/-- d != d -/
theorem ts_ne (m1 : MkH K σ H0 t1 d) (m2 : MkH K σ H0 t2 d) (ly : Ly d) : TsH σ H0 (tTest (tOp (rNeF K) t1 t2)) false := fun H Q s q =>
  m1 H _ s fun x H1 s1 d1 => m2 H1 _ (s.trans s1) fun y H2 s2 d2 => by
    refine ⟨d, d, Dx.dp ly.hd (d1.up s2), Dx.dp ly.hd d2, ly.lay, ly.lay, Nat.le_trans ly.dp (by decide), _, rfl, ?_⟩
    rw [SeqAt.eqv_refl _ ly.lay]
    exact q _ (s1.trans s2)
/-- d != e -/
theorem ts_neT {d e : PyData} (m1 : MkH K σ H0 t1 d) (m2 : MkH K σ H0 t2 e) (ld : Ly d) (le : Ly e) (ne : PyData.eqv d e = false) : TsH σ H0 (tTest (tOp (rNeF K) t1 t2)) true := fun H Q s q =>
  m1 H _ s fun x H1 s1 d1 => m2 H1 _ (s.trans s1) fun y H2 s2 d2 => by
    refine ⟨d, e, Dx.dp ld.hd (d1.up s2), Dx.dp le.hd d2, ld.lay, le.lay, Nat.le_trans ld.dp (by decide), _, rfl, ?_⟩
    rw [ne]
    exact q _ (s1.trans s2)
theorem ly_nil : Ly (.tuple []) := ⟨rfl, rfl, by simp [PyData.depth, PyData.depthAll], rfl⟩
theorem ly_cps {rs : List NK} {n : Nat} {L : List PyData} (h : ∀ z, z ∈ L → Cp rs n z) (l : n ≤ 6) : Ly (.tuple L) := by
  obtain ⟨y1, y2, y3⟩ := lay_cp h
  exact ⟨by simp [PyData.canLay0, y1], by simp [PyData.hasDict, y2], by simp only [PyData.depth]; omega, by simp [pureD, cp_pure h]⟩
theorem ly_pr {rs : List NK} {n : Nat} {z : PyData} (h : Pr rs n z) (l : n ≤ 6) : Ly z := by
  obtain ⟨a, b, c, d⟩ := pr_lay h
  exact ⟨a, b, by omega, d⟩
theorem pr_pair {rs : List NK} {n : Nat} {a b : PyData} (h : Pr rs n (.tuple [a, b])) (l : n ≤ 6) (F : Func rs) : isPairD (.tuple [a, b]) = true ∧ isPairD (.tuple [b, a]) = false ∧ isPairD (.tuple [a, a]) = false ∧ ordC (.tuple [b, a]) = false ∧ ordC (.tuple [a, a]) = false := by
  obtain ⟨lt, ha, hb⟩ := h.tx F
  have o1 : ordC (.tuple [a, b]) = true := decide_eq_true lt
  have o2 : ordC (.tuple [b, a]) = false := decide_eq_false fun z => absurd (List.lt_trans lt z) (List.lt_irrefl _)
  have o3 : ordC (.tuple [a, a]) = false := decide_eq_false (List.lt_irrefl _)
  have c1 : couplesD [.tuple [a, b]] = true := couples_of (cp_cns (fun z hz => by rw [List.mem_singleton.mp hz]; exact h.cp) l F)
  refine ⟨by rw [isPairD, c1, o1]; rfl, by rw [isPairD, o2, Bool.and_false], by rw [isPairD, o3, Bool.and_false], o2, o3⟩
theorem nmP_pr {rs : List NK} {n : Nat} {a b : PyData} (h : Pr rs n (.tuple [a, b])) (F : Func rs) : nmP a b = .tuple [a, b] ∧ nmP b a = .tuple [a, b] := by
  obtain ⟨lt, ha, hb⟩ := h.tx F
  unfold nmP
  rw [if_pos lt, if_neg fun z => absurd (List.lt_trans lt z) (List.lt_irrefl _)]
  exact ⟨rfl, rfl⟩
end
section
variable {P : Program} {w : World} {K : PySem.W.Frag} {mg : Str → Option Value} {base : Heap} {σ : L2.St} {H0 : Hp} {te t1 t2 : TE} {d e : PyData} {b : Bool} {E : XK}
/-- make_pair(a, b) -/
theorem mh_mp {rs : List NK} (m1 : MkH K σ H0 t1 d) (m2 : MkH K σ H0 t2 e) (hd : Tm rs 3 d) (he : Tm rs 3 e) (g : Good rs) (ne : tx d ≠ tx e) : MkH K σ H0 (tCall (spMp K) [] E (tCons t1 (tCons t2 tNil))) (nmP d e) := fun H Q s q =>
  m1 H _ s fun x H1 s1 d1 => m2 H1 _ (s.trans s1) fun y H2 s2 d2 => by
    have z1 := sz_formed d 3 hd.fm hd.dp
    have z2 := sz_formed e 3 he.fm he.dp
    have b3 : big 3 = 53 := rfl
    have cp : ∀ z, z ∈ [PyData.tuple [d, e]] → Cp rs 3 z := fun z hz => by rw [List.mem_singleton.mp hz]; exact ⟨d, e, rfl, hd, he⟩
    have C := cp_cns cp (by decide) g.fn
    have cj := couples_of C
    simp only [couplesD, Bool.and_eq_true] at cj
    exact ⟨x, y, d, e, rfl, ⟨d1.up s2, short_formed d hd.fm, by omega⟩, ⟨d2, short_formed e he.fm, by omega⟩, hd.term g, he.term g, by omega, ne, C, by simpa [sidesD, sidesOf] using cj.2, fun z H3 s3 dz => q z H3 (s1.trans (s2.trans s3)) dz⟩
end
end K11
/-! _law_judged_right. -/
namespace K11
open PySem PySem.Spec PyProof.Rows L2 Kx
section
variable {P : Program} {w : World} {K : PySem.W.Frag} {mg : Str → Option Value} {base : Heap}
theorem sz_pr {rs : List NK} {z : PyData} (h : Pr rs 3 z) : szD z ≤ 107 ∧ shortD z = true := by
  obtain ⟨a, b, rfl, ha, hb, _⟩ := h.ex
  have z1 := sz_formed a 3 ha.fm ha.dp
  have z2 := sz_formed b 3 hb.fm hb.dp
  have b3 : big 3 = 53 := rfl
  exact ⟨by simp only [szD, szAll]; omega, by simp [shortD, shortAll, short_formed a ha.fm, short_formed b hb.fm]⟩
theorem szs_le {ds : List PyData} (h : ∀ z, z ∈ ds → szD z ≤ 107 ∧ shortD z = true) : szAll ds ≤ ds.length * 107 ∧ shortAll ds = true := by
  induction ds with
  | nil => exact ⟨by simp [szAll], rfl⟩
  | cons z ds ih =>
    obtain ⟨i1, i2⟩ := ih fun y hy => h y (List.mem_cons_of_mem _ hy)
    obtain ⟨h1, h2⟩ := h z List.mem_cons_self
    exact ⟨by rw [szAll, List.length_cons, Nat.add_mul]; omega, by simp [shortAll, h2, i2]⟩
def spJr (K : PySem.W.Frag) : Sp := fun vs H Q _ => ∃ (x : V) (rs : List NK) (L : List PyData) (c : PyData), vs = [x] ∧ Dx K H x (.tuple [.tuple L, c]) ∧ Fa rs 3 10 L c ∧ Good rs ∧ ∀ H', Same H H' → Q (.bl true) H'
theorem ok_jr (T : Tx K mg) : FnOk P w K mg base CX0 9 T.a_law_judged_right T.d_law_judged_right ["due"] (spJr K) := by
  have nd := sc__law_judged_right.nd
  have GF := ok_fact (P := P) (w := w) (base := base) T
  have GP := ok_pair (P := P) (w := w) (base := base) T
  have GM := ok_mp (P := P) (w := w) (base := base) T
  refine T.f_law_judged_right.ok sc__law_judged_right (fun vs H Q E h => ?_) (fun cdv A outer s H vs Q E hr h => ?_)
  · obtain ⟨x, rs, L, c, rfl, _⟩ := h
    rfl
  obtain ⟨x, rs, L, c, rfl, dx, fa, g, q⟩ := h
  have F := g.fn
  refine ⟨_, (pss_cons (ps_asg (pv 0) (pg_tup rfl (pgs_cons (pg_name (i := 1) nd rfl (.inl rfl)) (pgs_cons (pg_name (i := 2) nd rfl (.inl rfl)) pgs_nil))))
      (pss_cons (ps_if (PW.pt (pw_or (pt_val (pe_call GF (hr.mono (by omega)) (by rfl) T.gis_fact T.fis_fact.kp T.nis_fact .nil pass0 (pa_cons (pe_tup (pa_cons (pe_callTy call_list_of (by rfl) T.b_list (by decide +kernel) (pa_cons (pv 1) pa_nil)) (pa_cons (pv 2) pa_nil))) pa_nil))) (pw_or (pt_val (pe_call GF (hr.mono (by omega)) (by rfl) T.gis_fact T.fis_fact.kp T.nis_fact .nil pass0 (pa_cons (pe_tup (pa_cons (pv 1) (pa_cons (pe_tup pa_nil) pa_nil))) pa_nil))) (pw_or1 (pt_val (pe_call GF (hr.mono (by omega)) (by rfl) T.gis_fact T.fis_fact.kp T.nis_fact .nil pass0 (pa_cons (pe_tup (pa_cons (pv 2) (pa_cons (pv 1) pa_nil))) pa_nil))))))) (pss_one (ps_ret pe_bl)) pss_nil)
      (pss_cons (ps_if (PW.pt (pw_and (pt_cmpR (op_neF (room200 hr)) (pv 1) (pe_tup pa_nil) (nomark _)) (pw_and1 (pt_val (pe_call GF (hr.mono (by omega)) (by rfl) T.gis_fact T.fis_fact.kp T.nis_fact .nil pass0 (pa_cons (pe_tup (pa_cons (pe_op op_catA (pv 1) (pe_slice sl_tupA (pv 1) (po_some (pe_un un_neg pe_int)) po_none)) (pa_cons (pv 2) pa_nil))) pa_nil)))))) (pss_one (ps_ret pe_bl)) pss_nil)
      (pss_cons (ps_if (PW.pt (pw_and (pt_cmpR op_gt (pe_callB call_len_seq (by rfl) T.b_len (by decide +kernel) (pa_cons (pv 1) pa_nil)) pe_int (nomark _)) (pw_and1 (pt_val (pe_call GF (hr.mono (by omega)) (by rfl) T.gis_fact T.fis_fact.kp T.nis_fact .nil pass0 (pa_cons (pe_tup (pa_cons (pe_revT (pv 1)) (pa_cons (pv 2) pa_nil))) pa_nil)))))) (pss_one (ps_ret pe_bl)) pss_nil)
      (pss_cons (ps_if (PW.pt (pw_and (pt_cmpR op_notN (pv 2) pe_non (nomark _)) (pw_and1 (pt_val (pe_call GF (hr.mono (by omega)) (by rfl) T.gis_fact T.fis_fact.kp T.nis_fact .nil pass0 (pa_cons (pe_tup (pa_cons (pv 1) (pa_cons (pe_revT (pv 2)) pa_nil))) pa_nil)))))) (pss_one (ps_ret pe_bl)) pss_nil)
      (pss_cons (ps_if (PW.pt (pw_and (pt_cmpR op_notN (pv 2) pe_non (nomark _)) (pw_and1 (pt_val (pe_call GF (hr.mono (by omega)) (by rfl) T.gis_fact T.fis_fact.kp T.nis_fact .nil pass0 (pa_cons (pe_tup (pa_cons (pe_op op_catA (pv 1) (pe_tup (pa_cons (pe_op op_repT (pe_tup (pa_cons (pe_ix ix_tup (pv 2) pe_int (fun _ _ => rfl)) pa_nil)) pe_int) pa_nil))) (pa_cons pe_non pa_nil))) pa_nil)))))) (pss_one (ps_ret pe_bl)) pss_nil)
      (pss_cons (ps_for PassesOwn.never rfl (pi_tup (pv 1)) (pg_tup rfl (pgs_cons (pg_name (i := 3) nd rfl (.inl rfl)) (pgs_cons (pg_name (i := 4) nd rfl (.inl rfl)) pgs_nil))) (pss_cons (ps_if (PW.pt (pw_or (pt_cmpR op_notBl (pe_call GP (hr.mono (by omega)) (by rfl) T.gis_pair T.fis_pair.kp T.nis_pair .nil pass0 (pa_cons (pe_tup (pa_cons (pv 3) (pa_cons (pv 4) pa_nil))) pa_nil)) pe_bl (nomark _)) (pw_or (pt_val (pe_call GP (hr.mono (by omega)) (by rfl) T.gis_pair T.fis_pair.kp T.nis_pair .nil pass0 (pa_cons (pe_tup (pa_cons (pv 4) (pa_cons (pv 3) pa_nil))) pa_nil))) (pw_or1 (pt_val (pe_call GP (hr.mono (by omega)) (by rfl) T.gis_pair T.fis_pair.kp T.nis_pair .nil pass0 (pa_cons (pe_tup (pa_cons (pv 3) (pa_cons (pv 3) pa_nil))) pa_nil))))))) (pss_one (ps_ret pe_bl)) pss_nil)
      (pss_cons (ps_if (PW.pt (pw_or (pt_val (pe_call GP (hr.mono (by omega)) (by rfl) T.gis_pair T.fis_pair.kp T.nis_pair .nil pass0 (pa_cons (pe_lst (pa_cons (pv 3) (pa_cons (pv 4) pa_nil))) pa_nil))) (pw_or1 (pt_val (pe_call GP (hr.mono (by omega)) (by rfl) T.gis_pair T.fis_pair.kp T.nis_pair .nil pass0 (pa_cons (pe_tup (pa_cons (pv 3) (pa_cons (pv 4) (pa_cons (pv 3) pa_nil)))) pa_nil)))))) (pss_one (ps_ret pe_bl)) pss_nil)
      (pss_one (ps_if (PW.pt (pw_or (pt_cmpR (op_neF (room200 hr)) (pe_call (E := E0) GM (hr.mono (by omega)) (by rfl) T.gmake_pair T.fmake_pair.kp T.nmake_pair .nil (passes_call takes00 (fun _ _ _ _ h => h)) (pa_cons (pv 3) (pa_cons (pv 4) pa_nil))) (pe_tup (pa_cons (pv 3) (pa_cons (pv 4) pa_nil))) (nomark _)) (pw_or (pt_cmpR (op_neF (room200 hr)) (pe_call (E := E0) GM (hr.mono (by omega)) (by rfl) T.gmake_pair T.fmake_pair.kp T.nmake_pair .nil (passes_call takes00 (fun _ _ _ _ h => h)) (pa_cons (pv 4) (pa_cons (pv 3) pa_nil))) (pe_tup (pa_cons (pv 3) (pa_cons (pv 4) pa_nil))) (nomark _)) (pw_or1 (pt_val (pe_call GP (hr.mono (by omega)) (by rfl) T.gis_pair T.fis_pair.kp T.nis_pair .nil pass0 (pa_cons (pe_tup (pa_cons (pv 3) pa_nil)) pa_nil))))))) (pss_one (ps_ret pe_bl)) pss_nil)))))
      (pss_one (ps_ret pe_bl))))))))), ?_⟩
  obtain ⟨f, t, us, v, rfl, hf, ht, hus, hv⟩ := dx_fact dx
  refine ⟨_, rfl, f, _, rfl, SqT.of hf, rfl, _, _, rfl, _, _, rfl, rfl, ?_⟩
  have dL : Dx K H (.ref t) (.tuple L) := .tup ht hus
  have lL := fa.len
  obtain ⟨zL, sL⟩ := szs_le fun z hz => sz_pr (fa.ps z hz)
  have zc : szD c ≤ 107 ∧ shortD c = true := by
    rcases fa.c with rfl | h
    · exact ⟨by simp [szD], rfl⟩
    · exact sz_pr h
  have smv : ∀ {ps e}, (∀ z, z ∈ ps → szD z ≤ 107 ∧ shortD z = true) → ps.length ≤ 30 → szD e ≤ 3000 → shortD e = true → SmF (.tuple [.tuple ps, e]) := fun {ps e} h1 h2 h3 h4 => by
    obtain ⟨a, b⟩ := szs_le h1
    exact smf b (by omega) (by omega) h4 h3
  have inL : ∀ z, z ∈ L → szD z ≤ 107 ∧ shortD z = true := fun z hz => sz_pr (fa.ps z hz)
  refine if_tsF (ts_orF (ts_fact (d := .tuple [.list L, c]) (mh_tup (mh_cons (mh_list (mh_var rfl dL)) (mh_cons (mh_var rfl hv) mh_nil)) (le100 rfl)) ⟨by simp [shortD, shortAll, zc.2], by simp only [szD, szAll]; omega, fun ps e he => by cases he⟩ no_list) (ts_orF (ts_fact (mh_tup (mh_cons (mh_var rfl dL) (mh_cons (mh_tup mh_nil (le100 rfl)) mh_nil)) (le100 rfl)) (smv inL (by omega) (by simp [szD, szAll]) rfl) no_empty) (ts_fact (d := .tuple [c, .tuple L]) (mh_tup (mh_cons (mh_var rfl hv) (mh_cons (mh_var rfl dL) mh_nil)) (le100 rfl)) ?_ ?_))) fun H1 s1 => ?_
  · refine ⟨by simp [shortD, shortAll, zc.2, sL], by simp only [szD, szAll]; omega, fun ps e he => ?_⟩
    simp only [PyData.tuple.injEq, List.cons.injEq, and_true] at he
    rcases fa.c with rfl | h
    · cases he.1
    · obtain ⟨a, b, rfl, _⟩ := h.ex
      have := he.1
      simp only [PyData.tuple.injEq] at this
      rw [← this]
      exact le100 rfl
  · rcases fa.c with rfl | h
    · rfl
    · obtain ⟨a, b, rfl, ha, hb, _⟩ := h.ex
      exact no_turned ha.fm
  have dL1 := dL.up s1
  have hv1 := hv.up s1
  have lyL : Ly (.tuple L) := ly_cps (fun z hz => (fa.ps z hz).cp) (by decide)
  refine if_tsF ?_ fun H2 s2 => ?_
  · rcases List.eq_nil_or_concat L with eL | ⟨L', z, eL⟩
    · subst eL
      exact ts_andF (ts_ne (mh_var rfl dL1) (mh_tup mh_nil (le100 rfl)) ly_nil)
    · rw [List.concat_eq_append] at eL
      subst eL
      have mz := fa.ps z (by simp)
      rw [List.length_append, List.length_singleton] at lL
      refine ts_and (ts_neT (mh_var rfl dL1) (mh_tup mh_nil (le100 rfl)) lyL ly_nil ?_) (ts_fact (mh_tup (mh_cons (mh_cat (mh_var rfl dL1) (mh_last (mh_var rfl dL1)) (by simp; omega)) (mh_cons (mh_var rfl hv1) mh_nil)) (le100 rfl)) (smv (fun y hy => ?_) (by simp; omega) (by omega) zc.2) no_dup)
      · cases L' <;> simp [PyData.eqv, PyData.eqvAll]
      · rcases List.mem_append.mp hy with hy | hy
        · exact inL y hy
        · rw [List.mem_singleton.mp hy]
          exact sz_pr mz
  have dL2 := dL1.up s2
  have hv2 := hv1.up s2
  refine if_tsF ?_ fun H3 s3 => ?_
  · have lu := hus.length
    refine fun H' Q s q => ⟨_, rfl, t, us, rfl, .inr (SqT.of ((s1.trans (s2.trans s)) _ _ ht)), _, _, rfl, rfl, _, rfl, ?_⟩
    by_cases lt : (1 : Int) < us.length
    · rw [decide_eq_true lt]
      refine iteT (ts_fact (mh_tup (mh_cons (mh_rev (mh_var rfl dL2)) (mh_cons (mh_var rfl hv2) mh_nil)) (le100 rfl)) (smv (fun y hy => inL y (List.mem_reverse.mp hy)) (by rw [List.length_reverse]; omega) (by omega) zc.2) (no_rev (fa.fact (by decide) F) (by omega)) H' Q s q)
    · rw [decide_eq_false lt]
      exact iteF (q _ (Same.refl _))
  have dL3 := dL2.up s3
  have hv3 := hv2.up s3
  have nv : v = .non ∨ ∃ a b, c = .tuple [a, b] ∧ Pr rs 3 (.tuple [a, b]) ∧ v ≠ .non := by
    rcases fa.c with h | h
    · exact .inl ((dx_nil hv).mp h)
    · obtain ⟨a, b, rfl, ha, hb, l⟩ := h.ex
      exact .inr ⟨a, b, rfl, ⟨a, b, rfl, ha, hb, l⟩, fun z => by have := (dx_nil hv).mpr z; cases this⟩
  refine if_tsF ?_ fun H4 s4 => ?_
  · rcases nv with ev | ⟨a, b, rfl, pr, ev⟩
    · exact ts_andF (ts_none rfl ev)
    · obtain ⟨_, _, _, o1, o2⟩ := pr_pair pr (by decide) F
      refine ts_and (ts_some rfl ev) (ts_fact (mh_tup (mh_cons (mh_var rfl dL3) (mh_cons (mh_rev (mh_var rfl hv3)) mh_nil)) (le100 rfl)) (smv inL (by omega) ?_ ?_) (no_order (z := .tuple [b, a]) (List.mem_append_right _ (List.mem_singleton_self _)) o1))
      · have := zc.1
        simp only [List.reverse_cons, List.reverse_nil, List.nil_append, List.singleton_append, szD, szAll] at this ⊢
        omega
      · have := zc.2
        simp only [List.reverse_cons, List.reverse_nil, List.nil_append, List.singleton_append, shortD, shortAll, Bool.and_true, Bool.and_eq_true] at this ⊢
        exact ⟨this.2, this.1⟩
  have dL4 := dL3.up s4
  have hv4 := hv3.up s4
  refine if_tsF ?_ fun H5 s5 => ?_
  · rcases nv with ev | ⟨a, b, rfl, pr, ev⟩
    · exact ts_andF (ts_none rfl ev)
    · obtain ⟨_, _, _, o1, o2⟩ := pr_pair pr (by decide) F
      obtain ⟨_, ta, tb⟩ := pr.tx F
      have za := sz_formed a 3 ta.fm ta.dp
      have b3 : big 3 = 53 := rfl
      have sa := short_formed a ta.fm
      refine ts_and (ts_some rfl ev) (ts_fact (mh_tup (mh_cons (mh_cat (mh_var rfl dL4) (mh_tup (mh_cons (mh_two (mh_tup (mh_cons (mh_ix (j := 0) rfl hv4 rfl) mh_nil) (le100 rfl))) mh_nil) (le100 rfl)) (by simp; omega)) (mh_cons mh_non mh_nil)) (le100 rfl)) (smv (fun y hy => ?_) (by simp; omega) (by simp [szD]) rfl) (no_order (z := .tuple [a, a]) (by simp) o2))
      rcases List.mem_append.mp hy with hy | hy
      · exact inL y hy
      · rw [List.mem_singleton.mp hy]
        exact ⟨by simp only [szD, szAll]; omega, by simp [shortD, shortAll, sa]⟩
  have sA := s1.trans (s2.trans (s3.trans (s4.trans s5)))
  have ht5 := sA _ _ ht
  have lu := hus.length
  refine ⟨_, rfl, t, rfl, ⟨_, SqT.of ht5⟩, for_tup (K := K) (a := t) (xs := us) (fun i σ G => Same H G ∧ ∃ y3 y4, σ = [some (.ref f), some (.ref t), some v, y3, y4]) ⟨sA, none, none, rfl⟩ (fun i σ G _ h => SqT.of (h.1 _ _ ht)) ?_ ?_⟩
  · rintro i z σ G hi ⟨sG, y3, y4, rfl⟩
    have lt : i < L.length := by
      rw [← lu]
      exact (List.getElem?_eq_some_iff.mp hi).1
    have gd := List.getElem?_eq_getElem lt
    obtain ⟨v2, hv2', dv2⟩ := hus.get gd
    rw [hi] at hv2'
    cases hv2'
    have pr := fa.ps _ (List.getElem_mem lt)
    obtain ⟨a, b, eab, _, _, _⟩ := pr.ex
    rw [eab] at dv2 pr
    obtain ⟨ltx, ta, tb⟩ := pr.tx F
    obtain ⟨i1, i2, i3, _, _⟩ := pr_pair pr (by decide) F
    have za := sz_formed a 3 ta.fm ta.dp
    have zb := sz_formed b 3 tb.fm tb.dp
    have b3 : big 3 = 53 := rfl
    have sa := short_formed a ta.fm
    have sb := short_formed b tb.fm
    obtain ⟨q0, u0, v3, rfl, hq0, du, dv3⟩ := dx_couple (dv2.up sG)
    refine ⟨q0, _, rfl, SqT.of hq0, rfl, _, _, rfl, _, _, rfl, rfl, ?_⟩
    have two : ∀ {x y : PyData}, shortD x = true → shortD y = true → szD x ≤ 500 → szD y ≤ 500 → shortD (.tuple [x, y]) = true ∧ szD (.tuple [x, y]) ≤ 10000 := fun {x y} h1 h2 h3 h4 => ⟨by simp [shortD, shortAll, h1, h2], by simp only [szD, szAll]; omega⟩
    have ab := two sa sb (by omega) (by omega)
    have ba := two sb sa (by omega) (by omega)
    have aa := two sa sa (by omega) (by omega)
    refine if_tsF (ts_orF (ts_isPair (mh_tup (mh_cons (mh_var rfl du) (mh_cons (mh_var rfl dv3) mh_nil)) (le100 rfl)) ab.1 ab.2 i1) (ts_orF (ts_pair (mh_tup (mh_cons (mh_var rfl dv3) (mh_cons (mh_var rfl du) mh_nil)) (le100 rfl)) ba.1 ba.2 i2) (ts_pair (mh_tup (mh_cons (mh_var rfl du) (mh_cons (mh_var rfl du) mh_nil)) (le100 rfl)) aa.1 aa.2 i3))) fun G1 t1 => ?_
    have du1 := du.up t1
    have dv1 := dv3.up t1
    refine if_tsF (ts_orF (ts_pair (mh_lst (mh_cons (mh_var rfl du1) (mh_cons (mh_var rfl dv1) mh_nil)) (le100 rfl)) rfl (by simp [szD]) rfl) (ts_pair (mh_tup (mh_cons (mh_var rfl du1) (mh_cons (mh_var rfl dv1) (mh_cons (mh_var rfl du1) mh_nil))) (le100 rfl)) (by simp [shortD, shortAll, sa, sb]) (by simp only [szD, szAll]; omega) rfl)) fun G2 t2 => ?_
    have du2 := du1.up t2
    have dv2 := dv1.up t2
    obtain ⟨n1, n2⟩ := nmP_pr pr F
    have nx : tx a ≠ tx b := fun z => absurd (z ▸ ltx) (List.lt_irrefl _)
    have m1 := mh_mp (K := K) (E := E0) (mh_var (σ := [some (.ref f), some (.ref t), some v, some u0, some v3]) (i := 3) rfl du2) (mh_var (i := 4) rfl dv2) ta tb g nx
    have m2 := mh_mp (K := K) (E := E0) (mh_var (σ := [some (.ref f), some (.ref t), some v, some u0, some v3]) (i := 4) rfl dv2) (mh_var (i := 3) rfl du2) tb ta g nx.symm
    rw [n1] at m1
    rw [n2] at m2
    refine if1_tsF (ts_orF (ts_ne m1 (mh_tup (mh_cons (mh_var rfl du2) (mh_cons (mh_var rfl dv2) mh_nil)) (le100 rfl)) (ly_pr pr (by decide))) (ts_orF (ts_ne m2 (mh_tup (mh_cons (mh_var rfl du2) (mh_cons (mh_var rfl dv2) mh_nil)) (le100 rfl)) (ly_pr pr (by decide))) (ts_pair (mh_tup (mh_cons (mh_var rfl du2) mh_nil) (le100 rfl)) (by simp [shortD, shortAll, sa]) (by simp only [szD, szAll]; omega) rfl))) fun G3 t3 => ?_
    exact ⟨sG.trans (t1.trans (t2.trans t3)), _, _, rfl⟩
  · rintro σ G ⟨sG, y3, y4, rfl⟩
    exact q _ sG
end
end K11
/-! What _law_made_right compares. -/
namespace K11
open PySem PySem.Spec PyProof.Rows L2 Kx
theorem Onc.uniq {ds es L M : List PyData} (h : Onc ds L) (h2 : Onc es M) (e : ∀ z, z ∈ ds ↔ z ∈ es) : L = M := uniq_data h.srt h2.srt fun z => by rw [h.mem, h2.mem, e]
/-- couples of equal sides say nothing -/
theorem nz_pad {ds : List PyData} {t : PyData} {k : Nat} (a b : PyData) : Nz (ds ++ List.replicate k (.tuple [t, t])) a b ↔ Nz ds a b := by
  have key : ∀ {x y : PyData}, tx x < tx y ∨ tx y < tx x → (PyData.tuple [x, y] ∈ ds ++ List.replicate k (.tuple [t, t]) ↔ PyData.tuple [x, y] ∈ ds) := fun {x y} l => by
    rw [List.mem_append]
    refine ⟨fun h => h.elim id fun h => ?_, .inl⟩
    have := List.eq_of_mem_replicate h
    simp only [PyData.tuple.injEq, List.cons.injEq, and_true] at this
    obtain ⟨rfl, e⟩ := this
    rw [e] at l
    exact absurd (l.elim id id) (List.lt_irrefl _)
  unfold Nz
  constructor
  · rintro ⟨l, h⟩
    exact ⟨l, h.imp (key (.inl l)).mp (key (.inr l)).mp⟩
  · rintro ⟨l, h⟩
    exact ⟨l, h.imp (key (.inl l)).mpr (key (.inr l)).mpr⟩
theorem fod_pad {ds : List PyData} {t e r : PyData} {k : Nat} (h : FoD (ds ++ List.replicate k (.tuple [t, t])) e r) : FoD ds e r := by
  obtain ⟨L, p, h⟩ := h
  exact ⟨L, ⟨fun z => by rw [p.mem]; exact exists_congr fun a => exists_congr fun b => by rw [nz_pad], p.srt⟩, h⟩
/-- a dict of rows -/
structure Md (ms : List NK) (kvs : List (Key × V)) : Prop where
  nd : (kvs.map Prod.fst).Nodup
  at_ : ∀ p, p ∈ kvs → ∃ r, r ∈ ms ∧ p = ((.inr r.1 : Key), V.int (r.2 : Int))
  all : ∀ r, r ∈ ms → (.inr r.1 : Key) ∈ kvs.map Prod.fst
theorem Md.nil : Md [] [] := ⟨List.nodup_nil, (fun p hp => by cases hp), fun r h => by cases h⟩
theorem Md.put {ms : List NK} {kvs : List (Key × V)} (h : Md ms kvs) (r : NK) : Md (ms ++ [r]) (putK kvs (.inr r.1) (.int (r.2 : Int))) := by
  refine ⟨nodup_put h.nd, fun p hp => ?_, fun e he => ?_⟩
  · rcases mem_put hp with rfl | ⟨hp, _⟩
    · exact ⟨r, by simp, rfl⟩
    · obtain ⟨c, m, e⟩ := h.at_ p hp
      exact ⟨c, List.mem_append_left _ m, e⟩
  · rw [mem_fst_put]
    rcases List.mem_append.mp he with he | he
    · exact .inl (h.all e he)
    · rw [List.mem_singleton.mp he]
      exact .inr rfl
theorem Md.merge : ∀ {ms ms0 : List NK} {acc : List (Key × V)}, Md ms0 acc → Md (ms0 ++ ms) (mergeK acc (dictOf ms))
  | [], ms0, acc, h => by rw [List.append_nil]; exact h
  | r :: ms, ms0, acc, h => by
    have := Md.merge (ms := ms) (h.put r)
    rw [List.append_assoc] at this
    exact this
theorem Md.val {ms : List NK} {kvs : List (Key × V)} (h : Md ms kvs) (F : Func ms) {r : NK} (m : r ∈ ms) : valV kvs (.inr r.1) = some (V.int (r.2 : Int)) := by
  obtain ⟨p, hp, e⟩ := List.mem_map.mp (h.all r m)
  obtain ⟨r2, m2, e2⟩ := h.at_ p hp
  have e3 : r.1 = r2.1 := by
    rw [e2] at e
    exact (Sum.inr.inj e).symm
  have e4 := F r m r2 m2 e3
  refine val_of_mem h.nd ?_
  rw [e3, e4, ← e2]
  exact hp
theorem Md.keys {ms : List NK} {kvs : List (Key × V)} (h : Md ms kvs) : ∃ l : List Str, kvs.map Prod.fst = l.map Sum.inr ∧ l.Nodup ∧ ∀ z, z ∈ l ↔ z ∈ ms.map Prod.fst := by
  have key : ∀ ks : List Key, (∀ k, k ∈ ks → ∃ z : Str, k = .inr z) → ∃ l : List Str, ks = l.map Sum.inr := fun ks => by
    induction ks with
    | nil => intro _; exact ⟨[], rfl⟩
    | cons k ks ih =>
      intro hk
      obtain ⟨z, e⟩ := hk k List.mem_cons_self
      obtain ⟨l, e2⟩ := ih fun k hk2 => hk k (List.mem_cons_of_mem _ hk2)
      exact ⟨z :: l, by rw [e, e2]; rfl⟩
  obtain ⟨l, el⟩ := key (kvs.map Prod.fst) fun k hk => by
    obtain ⟨p, hp, rfl⟩ := List.mem_map.mp hk
    obtain ⟨r, _, e⟩ := h.at_ p hp
    exact ⟨_, by rw [e]⟩
  refine ⟨l, el, ?_, fun z => ⟨fun hz => ?_, fun hz => ?_⟩⟩
  · have := h.nd
    rw [el, List.Nodup, List.pairwise_map] at this
    exact this.imp fun hne e => hne (by rw [e])
  · have : (.inr z : Key) ∈ kvs.map Prod.fst := by rw [el]; exact List.mem_map.mpr ⟨z, hz, rfl⟩
    obtain ⟨p, hp, e⟩ := List.mem_map.mp this
    obtain ⟨r, m, e2⟩ := h.at_ p hp
    rw [e2] at e
    rw [← Sum.inr.inj e]
    exact List.mem_map.mpr ⟨r, m, rfl⟩
  · obtain ⟨r, m, rfl⟩ := List.mem_map.mp hz
    have := h.all r m
    rw [el] at this
    obtain ⟨y, hy, e⟩ := List.mem_map.mp this
    rw [← Sum.inr.inj e]
    exact hy
theorem srtS_uniq {l m : List Str} (nl : l.Nodup) (nm : m.Nodup) (h : ∀ z, z ∈ l ↔ z ∈ m) : srtS l = srtS m := by
  refine uniq_sorted (r := fun a b : Str => a.cps.toList < b.cps.toList) (fun a => List.lt_irrefl _) (fun {a b c} => List.lt_trans) (srtS_strict nl) (srtS_strict nm) fun z => ?_
  rw [(srtS_perm l).mem_iff, (srtS_perm m).mem_iff, h]
theorem nodup_same_len {α : Type} [DecidableEq α] {l m : List α} (nl : l.Nodup) (nm : m.Nodup) (h : ∀ z, z ∈ l ↔ z ∈ m) : l.length = m.length :=
  Nat.le_antisymm (nodup_len nl fun x hx => (h x).mp hx) (nodup_len nm fun x hx => (h x).mpr hx)
theorem nm_ok {x : Str} (hx : isNm x = true) : PyData.strOk x = true := Array.all_eq_true'.mpr fun c hc => by
  have := letters_le hx c (Array.mem_toList_iff.mpr hc)
  exact decide_eq_true (by omega)
/-- lists of names, compared -/
theorem ne_strs {K : PySem.W.Frag} {σ : L2.St} {H0 : Hp} {t1 t2 : TE} (l : List Str) (hl : ∀ x, x ∈ l → isNm x = true) (m1 : MkH K σ H0 t1 (.list (l.map PyData.str))) (m2 : MkH K σ H0 t2 (.list (l.map PyData.str))) : TsH σ H0 (tTest (tOp (rNeF K) t1 t2)) false := fun H Q s q =>
  m1 H _ s fun x H1 s1 d1 => m2 H1 _ (s.trans s1) fun y H2 s2 d2 => by
    have key : ∀ l : List Str, (∀ x, x ∈ l → isNm x = true) → PyData.canLayAll0 (l.map PyData.str) = true ∧ PyData.hasDictAll (l.map PyData.str) = false ∧ PyData.depthAll (l.map PyData.str) ≤ 1 := fun l => by
      induction l with
      | nil => exact fun _ => ⟨rfl, rfl, by simp [PyData.depthAll]⟩
      | cons x l ih =>
        intro h
        obtain ⟨a, b, c⟩ := ih fun y hy => h y (List.mem_cons_of_mem _ hy)
        exact ⟨by simp [PyData.canLayAll0, PyData.canLay0, a, nm_ok (h x List.mem_cons_self)], by simp [PyData.hasDictAll, PyData.hasDict, b], by simp only [List.map_cons, PyData.depthAll, PyData.depth]; omega⟩
    obtain ⟨a, b, c⟩ := key l hl
    have lay : (PyData.list (l.map PyData.str)).canLay0 = true := by simp [PyData.canLay0, a]
    have hd : (PyData.list (l.map PyData.str)).hasDict = false := by simp [PyData.hasDict, b]
    refine ⟨_, _, Dx.dp hd (d1.up s2), Dx.dp hd d2, lay, lay, by simp only [PyData.depth]; omega, _, rfl, ?_⟩
    rw [SeqAt.eqv_refl _ lay]
    exact q _ (s1.trans s2)
theorem dx_strs {K : PySem.W.Frag} {H : Hp} : ∀ l : List Str, DxAll K H (l.map V.str) (l.map PyData.str)
  | [] => .nil
  | x :: l => .cons (.str x) (dx_strs l)
/-- what is told, of two unlike terms -/
def Tl (rs : List NK) (d : PyData) : Prop := ∃ a b, d = .tuple [a, b] ∧ Tm rs 3 a ∧ Tm rs 3 b ∧ a ≠ b
theorem Tl.pure {rs : List NK} {d : PyData} (h : Tl rs d) : pureD d = true := by
  obtain ⟨a, b, rfl, ha, hb, _⟩ := h
  exact pure_two ha.fm hb.fm
/-- the raw list and what is told -/
structure Rm (K : PySem.W.Frag) (H G : Hp) (a p : Addr) (n : Nat) (us : List V) (ds : List PyData) (x : V) (d : PyData) : Prop where
  bt : But a H G
  di : Dice G a n
  el : G p = some (.lst us)
  dx : DxAll K G us ds
  dt : Dx K G x d
theorem Rm.same {K : PySem.W.Frag} {H G G' : Hp} {a p : Addr} {n : Nat} {us : List V} {ds : List PyData} {x : V} {d : PyData} (h : Rm K H G a p n us ds x d) (s : Same G G') : Rm K H G' a p n us ds x d := ⟨h.bt.trans (But.of s), h.di.up s, s _ _ h.el, h.dx.up s, h.dt.up s⟩
theorem Rm.but {K : PySem.W.Frag} {H G G' : Hp} {a p : Addr} {n n' : Nat} {us : List V} {ds : List PyData} {x : V} {d : PyData} (h : Rm K H G a p n us ds x d) (npa : p ≠ a) (pd : pureAll ds = true) (pt : pureD d = true) (b : But a G G') (d' : Dice G' a n') : Rm K H G' a p n' us ds x d :=
  ⟨h.bt.trans b, d', b _ _ h.el npa, DxAll.ts (Tups.but b h.di) _ _ pd h.dx, Dx.ts (Tups.but b h.di) _ _ pt h.dt⟩
theorem asc_tm {rs : List NK} {st : List PyData} (g : Good rs) (h : ∀ x, x ∈ st → Tm rs 3 x) (l : st.length ≤ 30) : Asc st ∧ (belAll st).length ≤ 390 ∧ (∀ d, d ∈ belAll st → Tm rs 3 d) := by
  have m3 : most 3 = 13 := rfl
  have fb := bel_few h
  rw [m3] at fb
  have lb : (belAll st).length ≤ 390 := by omega
  have tb := bel_tm h
  have pm := bel_perms st
  have lp : (preAll st).length ≤ 390 := by rw [← pm.length_eq]; exact lb
  have tp : ∀ d, d ∈ preAll st → Tm rs 3 d := fun d hd => tb d (pm.mem_iff.mpr hd)
  refine ⟨⟨tm_all h, by omega, tm_all tp, fun t ht => ?_, ?_, fun ts nd sub => ?_⟩, lb, tb⟩
  · have := tx_six (tp t ht).fm (Nat.le_trans (tp t ht).dp (by decide))
    omega
  · refine g.fn.sub fun r hr => ?_
    obtain ⟨x, hx, hr⟩ := rows_mem hr
    exact (tp x hx).rw r hr
  · have ln := nodup_len nd sub
    have key : ∀ l : List PyData, (∀ u, u ∈ l → Tm rs 3 u) → (l.map szI).sum ≤ 13 * l.length := fun l => by
      induction l with
      | nil => intro _; simp
      | cons u l ih =>
        intro hl
        have i := ih fun v hv => hl v (List.mem_cons_of_mem _ hv)
        have tu := hl u List.mem_cons_self
        have pu := pre_most 3 u tu.fm tu.dp
        rw [m3] at pu
        rw [List.map_cons, List.sum_cons, List.length_cons]
        unfold szI at i ⊢
        omega
    have := key ts fun u hu => tp u (sub u hu)
    omega
theorem ly_tms {rs : List NK} {n : Nat} {L : List PyData} (h : ∀ z, z ∈ L → Tm rs n z) (l : n ≤ 6) : Ly (.tuple L) := by
  obtain ⟨a, b⟩ := lay_formedAll L (tm_all h)
  have dp : ∀ L : List PyData, (∀ z, z ∈ L → Tm rs n z) → PyData.depthAll L ≤ n := fun L => by
    induction L with
    | nil => intro _; simp [PyData.depthAll]
    | cons x L ih =>
      intro h
      have := ih fun y hy => h y (List.mem_cons_of_mem _ hy)
      have := (h x List.mem_cons_self).dp
      rw [PyData.depthAll]
      omega
  have := dp L h
  exact ⟨by simp [PyData.canLay0, a], by simp [PyData.hasDict, b], by simp only [PyData.depth]; omega, by simp [pureD, pure_formedAll _ (tm_all h)]⟩
theorem ten_of (l : List V) (h : 10 ≤ l.length) : ∃ u0 u1 u2 u3 u4 u5 u6 u7 u8 u9 rest, l = u0 :: u1 :: u2 :: u3 :: u4 :: u5 :: u6 :: u7 :: u8 :: u9 :: rest := by
  match l, h with
  | u0 :: u1 :: u2 :: u3 :: u4 :: u5 :: u6 :: u7 :: u8 :: u9 :: rest, _ => exact ⟨_, _, _, _, _, _, _, _, _, _, _, rfl⟩
theorem take_pad {ds : List PyData} {z : PyData} (l : ds.length ≤ 10) : (ds ++ List.replicate 10 z).take 10 = ds ++ List.replicate (10 - ds.length) z := by
  rw [List.take_append, List.take_of_length_le l, List.take_replicate]
  congr 2
  omega
end K11
/-! _law_made_right. -/
namespace K11
open PySem PySem.Spec PyProof.Rows L2 Kx
section
variable {P : Program} {w : World} {K : PySem.W.Frag} {mg : Str → Option Value} {base : Heap}
abbrev rLenS (K : PySem.W.Frag) : List V → Hp → VK → Prop := fun xs H Q => ∃ p ys, xs = [V.ref p] ∧ (SqL K H p ys ∨ SqT K H p ys) ∧ Q (V.int (ys.length : Int)) H
def spMr (K : PySem.W.Frag) : Sp := fun vs H Q _ => ∃ (a : Addr) (m : Nat), vs = [.ref a] ∧ Dice H a m ∧ m + 5000 < cap ∧
  ∀ H', But a H H' → Dice H' a (m + 5000) → Q (.bl true) H'
theorem ok_mr (T : Tx K mg) : FnOk P w K mg base CX0 11 T.a_law_made_right T.d_law_made_right ["dice"] (spMr K) := by
  have nd := sc__law_made_right.nd
  have G_names := ok_names (P := P) (w := w) (base := base) T
  have G_raw := ok_raw (P := P) (w := w) (base := base) T
  have G_dp := ok_dp (P := P) (w := w) (base := base) T 3
  have G_roll := ok_roll (P := P) (w := w) (base := base) T
  have G_pick := ok_pick (P := P) (w := w) (base := base) T
  have G_due := ok_due (P := P) (w := w) (base := base) T
  have G_ten := ok_ten (P := P) (w := w) (base := base) T
  have G_fact := ok_fact (P := P) (w := w) (base := base) T
  have G_ti := ok_ti (P := P) (w := w) (base := base) T
  have G_bl := ok_bl (P := P) (w := w) (base := base) T 3
  have G_once := ok_once (P := P) (w := w) (base := base) T
  have G_tof := ok_tof (P := P) (w := w) (base := base) T
  have G_nof := ok_nof (P := P) (w := w) (base := base) T
  have G_pin := ok_pin (P := P) (w := w) (base := base) T
  have G_jr := ok_jr (P := P) (w := w) (base := base) T
  refine T.f_law_made_right.ok sc__law_made_right (fun vs H Q E h => ?_) (fun cdv A outer s H vs Q E hr h => ?_)
  · obtain ⟨a, m, rfl, _⟩ := h
    rfl
  obtain ⟨a, m, rfl, hd, hm, q⟩ := h
  unfold cap at hm
  refine ⟨_, (pss_cons (ps_set (i := 1) nd rfl (.inl rfl) (pe_call G_names (hr.mono (by omega)) (by rfl) T.g_law_names T.f_law_names.kp T.n_law_names .nil pass0 (pa_cons (pv 0) (pa_cons pe_int pa_nil))))
      (pss_cons (ps_par (i := 2) (j := 3) (by rfl) nd rfl rfl (by decide) rfl rfl (pa_cons (pe_call G_raw (hr.mono (by omega)) (by rfl) T.g_law_raw T.f_law_raw.kp T.n_law_raw .nil pass0 (pa_cons (pv 0) (pa_cons (pv 1) pa_nil))) (pa_cons (pe_call G_dp (hr.mono (by omega)) (by rfl) T.g_law_drawn_pair T.f_law_drawn_pair.kp T.n_law_drawn_pair .nil pass0 (pa_cons (pv 0) (pa_cons (pv 1) (pa_cons pe_int pa_nil)))) pa_nil)) (by rfl))
      (C8.pss_cut (ps_if (PW.pt (pw_and (pt_cmpR op_eq (pe_call G_roll (hr.mono (by omega)) (by rfl) T.g_law_roll T.f_law_roll.kp T.n_law_roll .nil pass0 (pa_cons (pv 0) (pa_cons pe_int pa_nil))) pe_int (nomark _)) (pw_and1 (pt_cmpR (op_neNil hr.units) (pv 2) (pe_lst pa_nil) (nomark _))))) (pss_cons (ps_asg (pe_call G_pick (hr.mono (by omega)) (by rfl) T.g_law_pick T.f_law_pick.kp T.n_law_pick .nil pass0 (pa_cons (pv 0) (pa_cons (pv 2) pa_nil))) (pg_tup rfl (pgs_cons (pg_name (i := 4) nd rfl (.inl rfl)) (pgs_cons (pg_name (i := 5) nd rfl (.inl rfl)) pgs_nil))))
      (pss_one (ps_set (i := 3) nd rfl (.inl rfl) (pe_ifExp (pt_cmpR (op_eqF (room200 hr)) (pv 4) (pv 5) (nomark _)) (pv 3) (pe_tup (pa_cons (pv 4) (pa_cons (pv 5) pa_nil))))))) pss_nil)
      (C8.pss_cut (ps_set (i := 3) nd rfl (.inl rfl) (pe_ifExp (pt_cmpR op_eq (pe_call G_roll (hr.mono (by omega)) (by rfl) T.g_law_roll T.f_law_roll.kp T.n_law_roll .nil pass0 (pa_cons (pv 0) (pa_cons pe_int pa_nil))) pe_int (nomark _)) (pe_tup (pa_cons (pe_ix ix_tup (pv 3) pe_int (fun _ _ => rfl)) (pa_cons (pe_ix ix_tup (pv 3) pe_int (fun _ _ => rfl)) pa_nil))) (pv 3)))
      (pss_cons (ps_set (i := 6) nd rfl (.inl rfl) (pe_op op_cat (pv 2) (pe_op op_rep (pe_lst (pa_cons (pe_tup (pa_cons (pe_ix ix_tup (pv 3) pe_int (fun _ _ => rfl)) (pa_cons (pe_ix ix_tup (pv 3) pe_int (fun _ _ => rfl)) pa_nil))) pa_nil)) pe_int)))
      (C8.pss_cut (ps_set (i := 3) nd rfl (.inl rfl) (pe_ifExp (pt_cmpR op_eq (pe_call G_roll (hr.mono (by omega)) (by rfl) T.g_law_roll T.f_law_roll.kp T.n_law_roll .nil pass0 (pa_cons (pv 0) (pa_cons pe_int pa_nil))) pe_int (nomark _)) pe_non (pv 3)))
      (pss_cons (ps_set (i := 7) nd rfl (.inl rfl) (pe_call G_due (hr.mono (by omega)) (by rfl) T.g_law_due T.f_law_due.kp T.n_law_due .nil pass0 (pa_cons (pv 3) (pa_cons (pv 2) pa_nil))))
      (pss_cons (ps_if (PW.pt (pw_or (pt_cmpR (op_neF (room200 hr)) (pe_call G_ten (hr.mono (by omega)) (by rfl) T.g_law_ten T.f_law_ten.kp T.n_law_ten .nil pass0 (pa_cons (pv 3) (pa_cons (pv 6) pa_nil))) (pv 7) (nomark _)) (pw_or (pt_cmpR op_notBl (pe_call G_fact (hr.mono (by omega)) (by rfl) T.gis_fact T.fis_fact.kp T.nis_fact .nil pass0 (pa_cons (pv 7) pa_nil)) pe_bl (nomark _)) (pw_or (pt_val (pe_call G_fact (hr.mono (by omega)) (by rfl) T.gis_fact T.fis_fact.kp T.nis_fact .nil pass0 (pa_cons (pe_callTy call_list_of (by rfl) T.b_list (by decide +kernel) (pa_cons (pv 7) pa_nil)) pa_nil))) (pw_or1 (pt_val (pe_call G_fact (hr.mono (by omega)) (by rfl) T.gis_fact T.fis_fact.kp T.nis_fact .nil pass0 (pa_cons (pe_op op_catA (pv 7) (pe_tup (pa_cons pe_non pa_nil))) pa_nil)))))))) (pss_one (ps_ret pe_bl)) pss_nil)
      (pss_cons (ps_par (i := 8) (j := 9) (by rfl) nd rfl rfl (by decide) rfl rfl (pa_cons (pe_call G_ti (hr.mono (by omega)) (by rfl) T.g_law_terms_in T.f_law_terms_in.kp T.n_law_terms_in .nil pass0 (pa_cons (pe_lst (pa_cons (pv 7) pa_nil)) pa_nil)) (pa_cons (pe_lst pa_nil) pa_nil)) (by rfl))
      (C8.pss_cut (ps_for PassesOwn.never rfl (pi_list (pv 8)) (pg_name (i := 4) nd rfl (.inl rfl)) (pss_one (ps_set (i := 9) nd rfl (.inl rfl) (pe_op op_cat (pv 9) (pe_call G_bl (hr.mono (by omega)) (by rfl) T.g_law_below T.f_law_below.kp T.n_law_below .nil pass0 (pa_cons (pv 4) pa_nil))))))
      (pss_cons (ps_set (i := 10) nd rfl (.inl rfl) (pe_callTy (call_dictP rfl) (by rfl) T.b_dict (by decide +kernel) (pa_cons (pe_lc (own := [("one", 4)]) (g := (gName 4)) (tt := tYes) (by rfl) nd (pi_list (pv 9)) (blkOk_by (own := [("one", 4)]) (N := N__law_made_right) (sc := defScope s__law_made_right) (by decide +kernel)) (fun _ _ _ _ _ => pg_name (i := 4) nd rfl (.inl rfl)) (fun _ _ _ _ _ => pts_nil) (fun _ _ _ _ _ => (pe_tup (pa_cons (pe_ix (r := rIxT K) ix_tup (pv 4) pe_int (fun _ _ => rfl)) (pa_cons (pe_op (r := rI0 fun i j => .int (i - j)) op_sub (pe_callB (r := rLenS K) call_len_seq (by rfl) T.b_len (by decide +kernel) (pa_cons (pv 4) pa_nil)) pe_int) pa_nil))))) pa_nil)))
      (pss_cons (ps_if (PW.pt (pw_or (pt_cmpR (op_neF (room200 hr)) (pe_call (E := E0) G_tof (hr.mono (by omega)) (by rfl) T.gterms_of T.fterms_of.kp T.nterms_of .nil (passes_call takes00 (fun _ _ _ _ h => h)) (pa_cons (pv 7) pa_nil)) (pe_call G_once (hr.mono (by omega)) (by rfl) T.g_law_once T.f_law_once.kp T.n_law_once .nil pass0 (pa_cons (pv 8) pa_nil)) (nomark _)) (pw_or1 (pt_cmpR (op_neF (room200 hr)) (pe_call (E := E0) G_nof (hr.mono (by omega)) (by rfl) T.gnodes_of T.fnodes_of.kp T.nnodes_of .nil (passes_call takes00 (fun _ _ _ _ h => h)) (pa_cons (pv 7) pa_nil)) (pe_call G_once (hr.mono (by omega)) (by rfl) T.g_law_once T.f_law_once.kp T.n_law_once .nil pass0 (pa_cons (pv 9) pa_nil)) (nomark _))))) (pss_one (ps_ret pe_bl)) pss_nil)
      (pss_cons (ps_if (PW.pt (pw_or (pt_cmpR (op_ne_dictA (Nat.lt_of_le_of_lt (Nat.le_add_right _ _) (room200 hr))) (pe_call (E := E0) G_pin (hr.mono (by omega)) (by rfl) T.gplaces_in T.fplaces_in.kp T.nplaces_in .nil (passes_call takes00 (fun _ _ _ _ h => h)) (pa_cons (pv 7) pa_nil)) (pv 10) (nomark _)) (pw_or1 (pt_cmpR (op_neF (room200 hr)) (pe_callTy (call_listD rfl) (by rfl) T.b_list (by decide +kernel) (pa_cons (pe_call (E := E0) G_pin (hr.mono (by omega)) (by rfl) T.gplaces_in T.fplaces_in.kp T.nplaces_in .nil (passes_call takes00 (fun _ _ _ _ h => h)) (pa_cons (pv 7) pa_nil)) pa_nil)) (pe_callB (cr_sortedKS rfl hr.units) (by rfl) T.b_sorted (by decide +kernel) (pa_cons (pv 10) pa_nil)) (nomark _))))) (pss_one (ps_ret pe_bl)) pss_nil)
      (pss_one (ps_ret (pe_call G_jr (hr.mono (by omega)) (by rfl) T.g_law_judged_right T.f_law_judged_right.kp T.n_law_judged_right .nil pass0 (pa_cons (pv 7) pa_nil))))))))))))))))), ?_⟩
  refine ⟨_, rfl, a, m, rfl, hd, by unfold cap; omega, fun nm zs H1 b1 d1 nnm nna ri g => ?_⟩
  have F := g.fn
  refine ⟨_, rfl, _, rfl, a, nm, m + 100, zs, rfl, d1, by unfold cap; omega, ri, nna, g, fun p us ds H2 b2 d2 npa np el dus cp ld => ?_⟩
  refine ⟨_, rfl, _, rfl, a, nm, m + 2100, zs, rfl, by decide, by decide, d2, by unfold cap; omega, ri.but b2 d1 nna, nna, g, fun x0 t0 H3 b3 d3 dt0 pr0 => ?_⟩
  have pds := cp_pure cp
  generalize ers : zs.map Prod.snd = rs at g F cp pr0
  have tl0 : Tl rs t0 := by
    obtain ⟨ta, tb, rfl, ha, hb, l⟩ := pr0.ex
    exact ⟨ta, tb, rfl, ha, hb, fun z => by rw [z] at l; exact ltR_irrefl _ l⟩
  have rm3 : Rm K H H3 a p (m + 2420) us ds x0 t0 := ⟨b1.trans (b2.trans b3), d3, b3 _ _ el npa, DxAll.ts (Tups.but b3 d2) _ _ pds dus, dt0⟩
  refine ⟨_, _, rfl, ?_⟩
  refine ⟨fun σ' G => ∃ n x t y4 y5, n ≤ m + 2430 ∧ σ' = [some (.ref a), some (.ref nm), some (.ref p), some x, y4, y5, none, none, none, none, none] ∧ Rm K H G a p n us ds x t ∧ Tl rs t, ?_, ?_⟩
  · refine ⟨_, rfl, a, m + 2420, 4, rfl, rm3.di, by unfold cap; omega, by decide, by decide, fun r H4 b4 d4 r0 r1 => ⟨rfl, _, rfl, ite2 (fun _ => ?_) (fun _ => ?_)⟩⟩
    · have rm4 := rm3.but npa pds tl0.pure b4 d4
      refine ⟨_, rfl, Nat.zero_le _, fun f nf => ?_⟩
      have sf := same_put (o := .lst []) nf
      have rm5 := rm4.same sf
      refine ⟨p, f, us, rfl, rfl, SqL.of rm5.el, SqL.of upd_same, _, rfl, ?_⟩
      cases hu : us.isEmpty with
      | true => exact iteF ⟨_, _, _, _, _, by omega, rfl, rm5, tl0⟩
      | false =>
        have pos : 0 < us.length := by
          cases us with
          | nil => cases hu
          | cons _ _ => simp
        have lu := dus.length
        refine iteT ⟨_, rfl, _, rfl, a, p, _, us, rfl, rm5.di, by unfold cap; omega, SqL.of rm5.el, npa, pos, by omega, fun i v H6 b6 d6 hv => ?_⟩
        have rm6 := rm5.but npa pds tl0.pure b6 d6
        obtain ⟨d, md, dd⟩ := DxAll.at rm6.dx hv
        obtain ⟨a1, b1', rfl, ha1, hb1⟩ := cp d md
        obtain ⟨q0, u, v3, rfl, hq0, du, dv⟩ := dx_couple dd
        refine ⟨q0, _, rfl, SqT.of hq0, rfl, _, _, rfl, _, _, rfl, rfl, ?_⟩
        refine ⟨_, rfl, _, rfl, a1, b1', du.dp (lay_formed a1 ha1.fm).2, dv.dp (lay_formed b1' hb1.fm).2, (lay_formed a1 ha1.fm).1, (lay_formed b1' hb1.fm).1, by have := ha1.dp; omega, _, rfl, ?_⟩
        cases he : PyData.eqv a1 b1' with
        | true => exact iteT ⟨_, rfl, _, _, _, _, _, by omega, rfl, rm6, tl0⟩
        | false =>
          refine iteF ⟨_, rfl, _, rfl, by show 2 ≤ sizeLine; decide, fun k nk => ?_⟩
          have sk := same_put (o := .tup [u, v3]) nk
          have r7 := rm6.same sk
          refine ⟨_, _, _, _, _, by omega, rfl, ⟨r7.bt, r7.di, r7.el, r7.dx, .tup upd_same (.cons (du.up sk) (.cons (dv.up sk) .nil))⟩, a1, b1', rfl, ha1, hb1, fun z => ?_⟩
          rw [(eqv_formed a1 b1' ha1.fm hb1.fm).mpr z] at he
          cases he
    · exact iteF ⟨_, _, _, _, _, by omega, rfl, rm3.but npa pds tl0.pure b4 d4, tl0⟩
  rintro σ4 G4 ⟨n4, x4, t4, y4, y5, hn4, rfl, rm4, tl4⟩
  refine ⟨fun σ' G => ∃ n x t, n ≤ m + 2440 ∧ σ' = [some (.ref a), some (.ref nm), some (.ref p), some x, y4, y5, none, none, none, none, none] ∧ Rm K H G a p n us ds x t ∧ Tl rs t, ?_, ?_⟩
  · refine ⟨_, rfl, a, n4, 2, rfl, rm4.di, by unfold cap; omega, by decide, by decide, fun r H5 b5 d5 r0 r1 => ⟨rfl, _, rfl, ite2 (fun _ => ?_) (fun _ => ?_)⟩⟩
    · have rm5 := rm4.but npa pds tl4.pure b5 d5
      obtain ⟨ta, tb, rfl, ha, hb, ne⟩ := tl4
      obtain ⟨q0, u, v3, rfl, hq0, du, dv⟩ := dx_couple rm5.dt
      refine ⟨_, rfl, q0, _, 1, v3, rfl, rfl, SqT.of hq0, atI_nat (j := 1) rfl, _, rfl, q0, _, 0, u, rfl, rfl, SqT.of hq0, atI_nat (j := 0) rfl, by show 2 ≤ sizeLine; decide, fun k nk => ?_⟩
      have sk := same_put (o := .tup [v3, u]) nk
      have r6 := rm5.same sk
      exact ⟨_, _, _, by omega, rfl, ⟨r6.bt, r6.di, r6.el, r6.dx, .tup upd_same (.cons (dv.up sk) (.cons (du.up sk) .nil))⟩, tb, ta, rfl, hb, ha, ne.symm⟩
    · exact ⟨_, rfl, _, _, _, by omega, rfl, rm4.but npa pds tl4.pure b5 d5, tl4⟩
  rintro σ5 G5 ⟨n5, x5, t5, hn5, rfl, rm5, tl5⟩
  have tl5' := tl5
  obtain ⟨ta, tb, rfl, ha, hb, ne⟩ := tl5
  obtain ⟨q0, u, v3, rfl, hq0, du, dv⟩ := dx_couple rm5.dt
  refine ⟨_, rfl, _, rfl, q0, _, 0, u, rfl, rfl, SqT.of hq0, atI_nat (j := 0) rfl, _, rfl, q0, _, 0, u, rfl, rfl, SqT.of hq0, atI_nat (j := 0) rfl, by show 2 ≤ sizeLine; decide, fun k nk => ⟨by show 1 ≤ sizeLine; decide, fun l nl => ?_⟩⟩
  have sk := same_put (o := .tup [u, u]) nk
  have sl := same_put (o := .lst [.ref k]) nl
  have lus := dus.length
  refine ⟨l, 10, [.ref k], rfl, rfl, upd_same, by decide, by decide, by show 10 ≤ sizeLine; decide, fun l2 nl2 => ?_⟩
  rw [show (List.replicate (10 : Int).toNat [V.ref k]).flatten = List.replicate 10 (V.ref k) from rfl]
  have s2 := same_put (o := .lst (List.replicate 10 (.ref k))) nl2
  have s3 := sk.trans (sl.trans s2)
  refine ⟨p, l2, us, List.replicate 10 (.ref k), rfl, rfl, s3 _ _ rm5.el, upd_same, Nat.le_of_lt (small1000 (by rw [List.length_replicate]; omega)), fun sm' nsm => ?_⟩
  have s4 := same_put (o := .lst (us ++ List.replicate 10 (.ref k))) nsm
  have nsa : sm' ≠ a := (rm5.same s3).di.ne nsm
  have rm6 := rm5.same (s3.trans s4)
  have esm : (upd (upd (upd (upd G5 k (.tup [u, u])) l (.lst [.ref k])) l2 (.lst (List.replicate 10 (.ref k)))) sm' (.lst (us ++ List.replicate 10 (.ref k)))) sm' = some (.lst (us ++ List.replicate 10 (.ref k))) := upd_same
  have dsm : DxAll K (upd (upd (upd (upd G5 k (.tup [u, u])) l (.lst [.ref k])) l2 (.lst (List.replicate 10 (.ref k)))) sm' (.lst (us ++ List.replicate 10 (.ref k)))) (us ++ List.replicate 10 (.ref k)) (ds ++ List.replicate 10 (.tuple [ta, ta])) := by
    have d0 : Dx K (upd G5 k (.tup [u, u])) (.ref k) (.tuple [ta, ta]) := .tup upd_same (.cons (du.up sk) (.cons (du.up sk) .nil))
    have d1 : Dx K (upd (upd (upd (upd G5 k (.tup [u, u])) l (.lst [.ref k])) l2 (.lst (List.replicate 10 (.ref k)))) sm' (.lst (us ++ List.replicate 10 (.ref k)))) (.ref k) (.tuple [ta, ta]) := d0.up (sl.trans (s2.trans s4))
    exact DxAll.append rm6.dx (.cons d1 (.cons d1 (.cons d1 (.cons d1 (.cons d1 (.cons d1 (.cons d1 (.cons d1 (.cons d1 (.cons d1 .nil))))))))))
  have cpS : ∀ z, z ∈ ds ++ List.replicate 10 (.tuple [ta, ta]) → Cp rs 3 z := fun z hz => (List.mem_append.mp hz).elim (cp z) fun h => by
    rw [List.eq_of_mem_replicate h]
    exact ⟨ta, ta, rfl, ha, ha⟩
  clear hq0
  generalize upd (upd (upd (upd G5 k (.tup [u, u])) l (.lst [.ref k])) l2 (.lst (List.replicate 10 (.ref k)))) sm' (.lst (us ++ List.replicate 10 (.ref k))) = G6 at rm6 esm dsm ⊢
  refine ⟨fun σ' G => ∃ n x t, n ≤ m + 2450 ∧ σ' = [some (.ref a), some (.ref nm), some (.ref p), some x, y4, y5, some (.ref sm'), none, none, none, none] ∧ Rm K H G a p n us ds x t ∧ (t = .none ∨ Tl rs t) ∧ G sm' = some (.lst (us ++ List.replicate 10 (.ref k))) ∧ DxAll K G (us ++ List.replicate 10 (.ref k)) (ds ++ List.replicate 10 (.tuple [ta, ta])), ?_, ?_⟩
  · refine ⟨_, rfl, a, n5, 5, rfl, rm6.di, by unfold cap; omega, by decide, by decide, fun r H7 b7 d7 r0 r1 => ⟨rfl, _, rfl, ?_⟩⟩
    have rm7 := rm6.but npa pds tl5'.pure b7 d7
    have e7 := b7 _ _ esm nsa
    have d7' := DxAll.ts (Tups.but b7 rm6.di) _ _ (cp_pure cpS) dsm
    refine ite2 (fun _ => ?_) (fun _ => ?_)
    · exact ⟨_, _, _, by omega, rfl, ⟨rm7.bt, rm7.di, rm7.el, rm7.dx, .non⟩, .inl rfl, e7, d7'⟩
    · exact ⟨_, rfl, _, _, _, by omega, rfl, rm7, .inr tl5', e7, d7'⟩
  clear rm6 esm dsm rm5 rm4 rm3
  rintro σ7 G7 ⟨n7, x7, t7, hn7, rfl, rm7, tl7, esm, dsm⟩
  -- due
  have lds : ds.length ≤ 100 := by omega
  have tt : t7 = .none ∨ ∃ a b, t7 = .tuple [a, b] ∧ formedD a = true ∧ formedD b = true ∧ a.depth ≤ 6 := tl7.imp id fun ⟨a, b, e, ha, hb, _⟩ => ⟨a, b, e, ha.fm, hb.fm, Nat.le_trans ha.dp (by decide)⟩
  have ct : ToldD rs 3 t7 := tl7.imp id fun ⟨a, b, e, ha, hb, _⟩ => ⟨a, b, e, ha, hb⟩
  have nt : ∀ a b, t7 = .tuple [a, b] → a ≠ b := fun a b e => by
    rcases tl7 with z | ⟨a', b', e', _, _, n⟩
    · rw [z] at e; cases e
    · rw [e] at e'
      simp only [PyData.tuple.injEq, List.cons.injEq, and_true] at e'
      rw [e'.1, e'.2]
      exact n
  refine ⟨_, rfl, _, rfl, x7, p, us, ds, t7, rfl, rm7.dt, SqL.of rm7.el, rm7.dx, cp_cns cp (by decide) F, lds, fun y hy => Nat.le_trans (cp_side cp y hy).dp (by decide), tt, fun y r G8 s8 dy du => ?_⟩
  have lyr := due_ly F (by decide) du cp ct nt
  obtain ⟨L, c, er, fa⟩ : ∃ L c, r = .tuple [.tuple L, c] ∧ Fa rs 3 10 L c := by
    obtain ⟨L, pL, h⟩ := id du
    rcases h with ⟨_, e⟩ | ⟨a', b', e1, e⟩
    · exact ⟨L, .none, e, (prs_cp pL F cp (.inl rfl)).le ld⟩
    · rcases ct with z | ⟨a2, b2, e2, ha2, hb2⟩
      · rw [z] at e1; cases e1
      · have n2 := nt a' b' e1
        rw [e1] at e2
        simp only [PyData.tuple.injEq, List.cons.injEq, and_true] at e2
        obtain ⟨rfl, rfl⟩ := e2
        exact ⟨L, _, e, (prs_cp pL F cp (.inr (pr_ord ha2 hb2 n2))).le ld⟩
  subst er
  have rm8 := rm7.same s8
  have esm8 := s8 _ _ esm
  have dsm8 := dsm.up s8
  have fz : ∀ {G x}, Dx K G x (.tuple [.tuple L, c]) → Fz K G x (.tuple [.tuple L, c]) := fun {G x} dx => fa.fz (by decide) (by decide) (by decide) dx
  have sm : SmF (.tuple [.tuple L, c]) := ⟨(fz dy).sh, (fz dy).sz, (fz dy).few⟩
  have fc := fa.fact (by decide) F
  -- the first test
  dsimp only [gName]
  refine if_tsF ?_ fun G9 s9 => ?_
  · refine ts_orF (ts_ne (K := K) (d := .tuple [.tuple L, c]) (fun H' Q s q => ?_) (mh_var (i := 7) rfl dy) lyr) (ts_orF (ts_isFact (mh_var (i := 7) rfl dy) sm fc) (ts_orF (ts_fact (d := .list [.tuple L, c]) (fun H' Q s q => ?_) ⟨rfl, by simp [szD], fun ps e he => by cases he⟩ no_whole) (ts_fact (d := .tuple [.tuple L, c, .none]) (fun H' Q s q => ?_) ⟨?_, ?_, fun ps e he => by cases he⟩ no_three)))
    · obtain ⟨u0, u1, u2, u3, u4, u5, u6, u7, u8, u9, rest, eW⟩ := ten_of (us ++ List.replicate 10 (.ref k)) (by rw [List.length_append, List.length_replicate]; omega)
      have lW := congrArg List.length eW
      rw [List.length_append, List.length_replicate] at lW
      simp only [List.length_cons] at lW
      have lus := dus.length
      have d10 := (dsm8.up s).take 10
      rw [take_pad ld, eW] at d10
      have eS := esm8
      rw [eW] at eS
      have cp10 : ∀ z, z ∈ (ds ++ List.replicate (10 - ds.length) (.tuple [ta, ta])) ++ endOf t7 → Cp rs 3 z := fun z hz => by
        rcases List.mem_append.mp hz with hz | hz
        · rcases List.mem_append.mp hz with hz | hz
          · exact cp z hz
          · rw [List.eq_of_mem_replicate hz]
            exact ⟨ta, ta, rfl, ha, ha⟩
        · rcases ct with z2 | ⟨a2, b2, e2, ha2, hb2⟩
          · rw [z2] at hz; cases hz
          · rw [e2] at hz
            have hz : z ∈ [PyData.tuple [a2, b2]] := hz
            rw [List.mem_singleton.mp hz]
            exact ⟨a2, b2, rfl, ha2, hb2⟩
      obtain ⟨k1, k2⟩ := cp_size cp10
      have le1 : (endOf t7).length ≤ 1 := by cases t7 <;> simp [endOf]
      have b3' : big 3 = 53 := rfl
      have k3 : ((ds ++ List.replicate (10 - ds.length) (PyData.tuple [ta, ta])) ++ endOf t7).length ≤ 11 := by
        rw [List.length_append, List.length_append, List.length_replicate]
        omega
      refine ⟨_, rfl, _, rfl, x7, sm', u0, u1, u2, u3, u4, u5, u6, u7, u8, u9, rest, _, t7, rfl, SqL.of (s _ _ eS), by omega, d10, rm8.dt.up s, k1, ?_, couples_of (cp_cns cp10 (by decide) F), fun y2 r2 H2 s2 dy2 fo => ?_⟩
      · refine Nat.le_trans k2 ?_
        rw [b3']
        exact Nat.le_trans (Nat.mul_le_mul_right _ k3) (by decide)
      · have er := fo_due F (fod_pad fo) du ct nt
        subst er
        exact ⟨(fun z => by cases z), fun _ => q y2 H2 s2 dy2⟩
    · exact mh_list (K := K) (mh_var rfl dy) H' Q s q
    · exact mh_cat (K := K) (ds := [.tuple L, c]) (es := [.none]) (mh_var rfl dy) (mh_tup (mh_cons mh_non mh_nil) (le100 rfl)) (by show 3 ≤ 1000; decide) H' Q s q
    · have := sm.sh
      simp only [shortD, shortAll, Bool.and_true, Bool.and_eq_true] at this
      simp [shortD, shortAll, this.1, this.2]
    · have := (szs_le fun z hz => sz_pr (fa.ps z hz)).1
      have l10 := fa.len
      have zc : szD c ≤ 107 := by
        rcases fa.c with h | h
        · rw [h]; simp [szD]
        · exact (sz_pr h).1
      simp only [szD, szAll]
      omega
  have dy9 := dy.up s9
  have rm9 := rm8.same s9
  clear esm8 dsm8 esm dsm
  -- terms, parts
  refine ⟨_, rfl, by show 1 ≤ sizeLine; decide, fun l9 nl9 => ?_⟩
  have s10 := same_put (o := .lst [y]) nl9
  have cpA : ∀ z, z ∈ L ++ endOf c → Cp rs 3 z := fun z hz => (fa.all z hz).cp
  refine ⟨l9, y, L, c, rs, 3, rfl, upd_same, dy9.up s10, cpA, by have := fa.len; omega, fun pt ys G11 s11 npt ept dys => ?_⟩
  refine ⟨Nat.zero_le _, fun pp npp => ⟨_, _, rfl, ?_⟩⟩
  have tms := cp_side cpA
  have lsd := (cp_two cpA).2
  have le1 : (endOf c).length ≤ 1 := by cases c <;> simp [endOf]
  rw [List.length_append] at lsd
  have l10 := fa.len
  obtain ⟨as, lbl, tbl⟩ := asc_tm g tms (by omega)
  generalize esd : sidesD (L ++ endOf c) = sides at dys tms lsd as lbl tbl
  have s12 := same_put (o := .lst []) npp
  have sB := s10.trans (s11.trans s12)
  have lys := dys.length
  refine ⟨fun σ' G => ∃ y4' g9 zs, σ' = [some (.ref a), some (.ref nm), some (.ref p), some x7, y4', y5, some (.ref sm'), some y, some (.ref pt), some (.ref g9), none] ∧ Same G9 G ∧ G pt = some (.lst ys) ∧ DxAll K G ys sides ∧ G g9 = some (.lst zs) ∧ DxAll K G zs (belAll sides), ?_, ?_⟩
  · refine ⟨_, rfl, pt, rfl, ⟨_, SqL.of (s12 _ _ ept)⟩, for_list (K := K) (a := pt) (xs := ys) (fun i σ G => Same (upd G11 pp (.lst [])) G ∧ ∃ y4' g9 zs, σ = [some (.ref a), some (.ref nm), some (.ref p), some x7, y4', y5, some (.ref sm'), some y, some (.ref pt), some (.ref g9), none] ∧ G g9 = some (.lst zs) ∧ DxAll K G zs (belAll (sides.take i))) ⟨Same.refl _, y4, pp, [], rfl, upd_same, by rw [List.take_zero]; exact .nil⟩ (fun i σ G _ h => SqL.of (h.1 _ _ (s12 _ _ ept))) ?_ ?_⟩
    · rintro i z σ G hi ⟨sm5, y4', g9, zs, rfl, eg, dzs⟩
      have lt : i < sides.length := by rw [← lys]; exact (List.getElem?_eq_some_iff.mp hi).1
      have gd := List.getElem?_eq_getElem lt
      obtain ⟨v, hv, dv⟩ := (dys.up s12).get gd
      rw [hi] at hv
      cases hv
      have tm := tms _ (List.getElem_mem lt)
      have le2 := belAll_le sides (i + 1)
      rw [belAll_take gd, List.length_append] at le2
      have lzs := dzs.length
      refine ⟨_, rfl, _, rfl, _, _, rfl, dv.up sm5, tm.fm, tm.dp, by rw [← bel_len]; omega, fun pb G' ws sm4 np ep dw => ?_⟩
      have lw := dw.length
      refine ⟨g9, pb, _, _, rfl, rfl, sm4 _ _ eg, ep, Nat.le_of_lt (small1000 (by omega)), fun e ne => ?_⟩
      have sme := same_put (o := .lst (zs ++ ws)) ne
      exact ⟨sm5.trans (sm4.trans sme), _, e, zs ++ ws, rfl, upd_same, by rw [belAll_take gd]; exact DxAll.append (dzs.up (sm4.trans sme)) (dw.up sme)⟩
    · rintro σ G ⟨sm5, y4', g9, zs, rfl, eg, dzs⟩
      rw [lys, List.take_length] at dzs
      exact ⟨y4', g9, zs, rfl, sB.trans sm5, sm5 _ _ (s12 _ _ ept), dys.up (s12.trans sm5), eg, dzs⟩
  rintro σ12 G12 ⟨y4', g9, zs, rfl, sC, ept12, dys12, eg, dzs⟩
  have lzs := dzs.length
  -- counts
  refine ⟨_, rfl, g9, rfl, ⟨_, SqL.of eg⟩, fun D nD => ?_⟩
  refine lc_list (K := K) (a := g9) (xs := zs) (fun i G => Same G12 G ∧ ∃ ps : List Addr, G D = some (.lst (ps.map V.ref)) ∧ Paired (fun p (kv : Key × V) => G p = some (.tup [kV kv.1, kv.2])) ps (dictOf (((belAll sides).take i).map rowD))) ⟨same_put nD, [], upd_same, by rw [List.take_zero]; exact .nil⟩ (fun i G _ h => SqL.of (h.1 _ _ eg)) ?_ ?_
  · rintro i z G hi ⟨sG, ps, eD, pr⟩
    have lt : i < (belAll sides).length := by rw [← lzs]; exact (List.getElem?_eq_some_iff.mp hi).1
    have gd := List.getElem?_eq_getElem lt
    obtain ⟨v, hv, dv⟩ := dzs.get gd
    rw [hi] at hv
    cases hv
    have tm := tbl _ (List.getElem_mem lt)
    generalize (belAll sides)[i] = dd at dv tm gd
    obtain ⟨nm2, ds2, rfl, _⟩ := formed_shape tm.fm
    have dvG := dv.up sG
    cases dvG with
    | @tup q1 xs1 _ hq1 hs1 =>
    cases hs1 with
    | @cons v0 ws1 _ _ h0 hw1 =>
    cases h0
    have lw1 := hw1.length
    refine ⟨rfl, (iteT (B := False) ?_ : if true = true then _ else False)⟩
    refine ⟨_, rfl, q1, _, 0, .str nm2, rfl, rfl, SqT.of hq1, atI_nat (j := 0) rfl, _, rfl, q1, _, rfl, .inr (SqT.of hq1), _, _, rfl, rfl, by show 2 ≤ sizeLine; decide, fun u nu => ?_⟩
    have en : (((V.str nm2 :: ws1).length : Nat) : Int) - 1 = (ds2.length : Int) := by rw [List.length_cons, lw1]; omega
    have su := same_put (o := .tup [.str nm2, .int ((((V.str nm2 :: ws1).length : Nat) : Int) - 1)]) nu
    have eDu := su _ _ eD
    have tl := Tups.lst (ys := (ps ++ [u]).map V.ref) eDu
    have lps : ps.length ≤ i := by
      have h1 := Paired.length pr
      rw [dictOf, List.length_map, List.length_map, List.length_take] at h1
      omega
    refine ⟨_, eDu, by rw [List.length_map]; exact small1000 (by omega), fun k o hk => ?_, ps ++ [u], by rw [upd_same, List.map_append]; rfl, ?_⟩
    · rw [upd_ne (ne_of_none hk nD)]
      exact su _ _ (sG _ _ hk)
    · rw [List.take_add_one, gd, List.map_append, dictOf, List.map_append]
      have e0 := tl _ _ (upd_same (H := G) (a := u) (o := .tup [.str nm2, .int ((((V.str nm2 :: ws1).length : Nat) : Int) - 1)]))
      have := Paired.snoc (paired_tups ((Tups.of su).trans tl) pr) (a := u) (b := ((.inr nm2 : Key), V.int (ds2.length : Int)))
      rw [List.map_append] at this e0
      exact this (e0.trans (by rw [en]; rfl))
  rintro G13 ⟨sG, ps, eD, pr⟩
  rw [lzs, List.take_length] at pr
  refine ⟨D, ps, dictOf ((belAll sides).map rowD), rfl, SqL.of eD, Paired.mapP pr (fun _ _ h => SqT.of h), fun pc npc => ?_⟩
  have s13 := same_put (o := .dK (mergeK [] (dictOf ((belAll sides).map rowD)))) npc
  have md := Md.merge (ms := (belAll sides).map rowD) Md.nil
  rw [List.nil_append] at md
  have epc : (upd G13 pc (.dK (mergeK [] (dictOf ((belAll sides).map rowD))))) pc = some (.dK (mergeK [] (dictOf ((belAll sides).map rowD)))) := upd_same
  generalize mergeK [] (dictOf ((belAll sides).map rowD)) = kvs at md s13 epc ⊢
  have sD := sC.trans (sG.trans s13)
  have sE := sG.trans s13
  have dy13 := dy9.up sD
  have ept13 := sE _ _ ept12
  have dys13 := dys12.up sE
  have eg13 := sE _ _ eg
  have dzs13 := dzs.up sE
  generalize upd G13 pc (.dK kvs) = G14 at s13 epc sD sE dy13 ept13 dys13 eg13 dzs13 ⊢
  dsimp only [gName]
  refine if_tsF ?_ fun G15 s15 => ?_
  · have two : ∀ {x1 x2 : V} {L1 L2 ds1 ds2 : List PyData} {H1 H2 : Hp} {Q : Bool → Hp → Prop}, Dx K H1 x1 (.tuple L1) → Dx K H2 x2 (.tuple L2) → Same H1 H2 → Onc ds1 L1 → Onc ds2 L2 → (∀ z, z ∈ ds1 ↔ z ∈ ds2) → (∀ z, z ∈ ds1 → Tm rs 3 z) → Q false H2 → rNeF K x1 x2 H2 fun x H' => ∃ k, x = .bl k ∧ Q k H' := fun {x1 x2 L1 L2 ds1 ds2 H1 H2 Q} d1 d2 s o1 o2 ee tt q => by
      have e := o1.uniq o2 ee
      subst e
      have ly := ly_tms (fun z hz => tt z ((o1.mem z).mp hz)) (n := 3) (by decide)
      refine ⟨_, _, Dx.dp ly.hd (d1.up s), Dx.dp ly.hd d2, ly.lay, ly.lay, Nat.le_trans ly.dp (by decide), _, rfl, ?_⟩
      rw [SeqAt.eqv_refl _ ly.lay]
      exact q
    have fin : ∀ es : List PyData, (∀ z, z ∈ es → Tm rs 3 z) → (∀ d, d ∈ es → formedD d = true ∧ d.depth ≤ 6 ∧ (tx d).length ≤ 1000000) ∧ Func (rowsAll es) := fun es he => ⟨fun d hd => ⟨(he d hd).fm, Nat.le_trans (he d hd).dp (by decide), by have := tx_six (he d hd).fm (Nat.le_trans (he d hd).dp (by decide)); omega⟩, F.sub fun r hr => by
      obtain ⟨x, hx, hr⟩ := rows_mem hr
      exact (he x hx).rw r hr⟩
    refine ts_orF (fun H' Q s q => ?_) (fun H' Q s q => ?_)
    · obtain ⟨f1, f2⟩ := fin sides tms
      refine ⟨_, rfl, y, L, c, rfl, fz (dy13.up s), fc, fun y1 L1 H1 s1 d1 o1 => ⟨_, rfl, pt, ys, sides, rfl, SqL.of (s1 _ _ (s _ _ ept13)), dys13.up (s.trans s1), f1, f2, by omega, fun y2 L2 H2 s2 d2 o2 => ?_⟩⟩
      rw [esd] at o1
      exact two d1 d2 s2 o1 o2 (fun _ => Iff.rfl) tms (q _ (s1.trans s2))
    · obtain ⟨f1, f2⟩ := fin (belAll sides) tbl
      have pm := bel_perms sides
      refine ⟨_, rfl, y, L, c, rfl, fz (dy13.up s), fc, by rw [esd]; exact as, fun y1 L1 H1 s1 d1 o1 => ⟨_, rfl, g9, zs, belAll sides, rfl, SqL.of (s1 _ _ (s _ _ eg13)), dzs13.up (s.trans s1), f1, f2, by omega, fun y2 L2 H2 s2 d2 o2 => ?_⟩⟩
      rw [esd] at o1
      exact two d1 d2 s2 o1 o2 (fun z => pm.mem_iff.symm) (fun z hz => tbl z (pm.mem_iff.mpr hz)) (q _ (s1.trans s2))
  obtain ⟨l2, ek, nd2, ml2⟩ := md.keys
  have prm := bel_rowss sides as.fs
  have mrow : ∀ r, r ∈ rowsAll sides ↔ r ∈ (belAll sides).map rowD := fun r => prm.mem_iff.symm
  have rowrs : ∀ r, r ∈ rowsAll sides → r ∈ rs := fun r hr => by
    obtain ⟨x, hx, hr⟩ := rows_mem hr
    exact (tms x hx).rw r hr
  have Fp : Func ((belAll sides).map rowD) := F.sub fun r hr => rowrs r ((mrow r).mpr hr)
  have same_names : ∀ l : List Str, (∀ z, z ∈ l ↔ z ∈ (rowsAll sides).map Prod.fst) → ∀ z, z ∈ l ↔ z ∈ l2 := fun l ml z => by
    rw [ml, ml2, List.mem_map, List.mem_map]
    exact exists_congr fun r => by rw [mrow]
  have dy15 := dy13.up s15
  have epc15 := s15 _ _ epc
  refine if_tsF ?_ fun G16 s16 => ?_
  · refine ts_orF (fun H' Q s q => ?_) (ne_strs (K := K) (srtS l2) (fun x hx => ?_) (fun H' Q s q => ?_) (fun H' Q s q => ?_))
    · refine ⟨_, rfl, y, L, c, rfl, fz (dy15.up s), fc, fun pm ms' l H1 s1 em ndl ml msl sub => ⟨_, rfl, pm, pc, dictOf ms', kvs, rfl, rfl, em, s1 _ _ (s _ _ epc15), ?_, fun kv hkv => ?_, _, rfl, q _ s1⟩⟩
      · rw [esd] at ml
        have e1 := congrArg List.length msl
        have e2 := congrArg List.length ek
        have e3 := (srtS_perm l).length_eq
        have e4 := nodup_same_len ndl nd2 (same_names l ml)
        rw [List.length_map] at e1
        rw [List.length_map, List.length_map] at e2
        rw [dictOf, List.length_map]
        omega
      · obtain ⟨r, hr, rfl⟩ := List.mem_map.mp hkv
        have hr2 := sub r hr
        rw [esd] at hr2
        exact ⟨md.val Fp ((mrow r).mp hr2), rfl⟩
    · have hx := (srtS_perm l2).mem_iff.mp hx
      obtain ⟨r, hr, e⟩ := List.mem_map.mp ((ml2 x).mp hx)
      rw [← e]
      exact (g.nm r (rowrs r ((mrow r).mpr hr))).1
    · refine ⟨_, rfl, y, L, c, rfl, fz (dy15.up s), fc, fun pm ms' l H1 s1 em ndl ml msl sub => ⟨pm, dictOf ms', rfl, .inl em, fun pl npl => ?_⟩⟩
      have e : (dictOf ms').map (fun kv => kV kv.1) = (srtS l2).map V.str := by
        rw [esd] at ml
        rw [← srtS_uniq ndl nd2 (same_names l ml), ← msl, dictOf, List.map_map, List.map_map]
        rfl
      rw [e]
      exact q _ _ (s1.trans (same_put npl)) (.lst upd_same (dx_strs _))
    · exact ⟨_, rfl, pc, kvs, l2, rfl, s _ _ epc15, ek, fun pl npl => q _ _ (same_put npl) (.lst upd_same (dx_strs _))⟩
  have sF := sD.trans (s15.trans s16)
  exact ⟨_, rfl, y, rs, L, c, rfl, dy15.up s16, fa, g, fun H' s' => q H' (rm9.bt.trans (But.of (sF.trans s'))) ((rm9.di.up (sF.trans s')).le (by omega))⟩
end
end K11
/-! The law of k11. -/
namespace K11
open PySem PySem.Spec PyProof.Rows L2 Kx
def ca (x : Str) : PyData := .tuple [.str x]
def unlikeD : PyData := .tuple [.tuple [.str "f", ca "a"], .tuple [.str "f", ca "a", ca "a"]]
def apartD : PyData := .tuple [.tuple [.tuple [ca "a", .tuple [.str "f", ca "b"]]], .tuple [ca "b", ca "f"]]
def smB (d : PyData) : Bool := shortD d && decide (szD d ≤ 10000) && (match d with | .tuple [.tuple ps, _] => decide (ps.length ≤ 100) | _ => true)
theorem smB_ok {d : PyData} (h : smB d = true) : SmF d := by
  simp only [smB, Bool.and_eq_true, decide_eq_true_eq] at h
  refine ⟨h.1.1, h.1.2, fun ps e he => ?_⟩
  subst he
  exact of_decide_eq_true h.2
theorem asc_nil : Asc [] := ⟨rfl, by simp [preAll], rfl, (fun t h => by cases h), (fun p h => by cases h), fun ts nd sub => by
  cases ts with
  | nil => simp
  | cons t ts => cases sub t List.mem_cons_self⟩
theorem fo_empty : FoD [] .none (.tuple [.tuple [], .none]) := ⟨[], ⟨fun z => ⟨(fun h => by cases h), fun ⟨a, b, _, _, h⟩ => by rcases h with h | h <;> cases h⟩, .nil⟩, .inl ⟨rfl, rfl⟩⟩
section
variable {P : Program} {w : World} {K : PySem.W.Frag} {mg : Str → Option Value} {base : Heap}
def spLaw (K : PySem.W.Frag) : Sp := fun vs H Q _ => ∃ (a : Addr) (ns : List Int), vs = [.ref a] ∧ SqL K H a (ns.map V.int) ∧ ∀ H', Q (.bl true) H'
theorem ok_law (T : Tx K mg) : FnOk P w K mg base CX0 20 T.alaw T.dlaw ["script"] (spLaw K) := by
  have nd := sc_law.nd
  have G_dice := ok_dice (P := P) (w := w) (base := base) T
  have G_mr := ok_mr (P := P) (w := w) (base := base) T
  have G_pair := ok_pair (P := P) (w := w) (base := base) T
  have G_fact := ok_fact (P := P) (w := w) (base := base) T
  have G_nof := ok_nof (P := P) (w := w) (base := base) T
  have G_mf := ok_mf (P := P) (w := w) (base := base) T
  refine T.flaw.ok sc_law (fun vs H Q E h => ?_) (fun cdv A outer s H vs Q E hr h => ?_)
  · obtain ⟨a, ns, rfl, _⟩ := h
    rfl
  obtain ⟨a, ns, rfl, hS, q⟩ := h
  refine ⟨_, (pss_cons (ps_for PassesOwn.never rfl (pi_range1 (by rfl) T.b_range (pa_cons (pe_callB (call_max2 rfl) (by rfl) T.b_max (by decide +kernel) (pa_cons pe_int (pa_cons (pe_callB (call_min2 rfl) (by rfl) T.b_min (by decide +kernel) (pa_cons pe_int (pa_cons (pe_callB call_len_seq (by rfl) T.b_len (by decide +kernel) (pa_cons (pv 0) pa_nil)) pa_nil))) pa_nil))) pa_nil)) (pg_name (i := 1) nd rfl (.inl rfl)) (pss_cons (ps_set (i := 2) nd rfl (.inl rfl) (pe_call G_dice (hr.mono (by omega)) (by rfl) T.g_law_dice T.f_law_dice.kp T.n_law_dice .nil pass0 (pa_cons (pv 0) (pa_cons (pv 1) pa_nil))))
      (pss_one (ps_for PassesOwn.never rfl (pi_range1 (by rfl) T.b_range (pa_cons pe_int pa_nil)) (pg_name (i := 3) nd rfl (.inl rfl)) (pss_one (ps_if (pt_not (pt_val (pe_call G_mr (hr.mono (by omega)) (by rfl) T.g_law_made_right T.f_law_made_right.kp T.n_law_made_right .nil pass0 (pa_cons (pv 2) pa_nil)))) (pss_one (ps_ret pe_bl)) pss_nil))))))
      (pss_cons (ps_set (i := 4) nd rfl (.inl rfl) (pe_tup (pa_cons (pe_tup (pa_cons pe_str (pa_cons (pe_tup (pa_cons pe_str pa_nil)) pa_nil))) (pa_cons (pe_tup (pa_cons pe_str (pa_cons (pe_tup (pa_cons pe_str pa_nil)) (pa_cons (pe_tup (pa_cons pe_str pa_nil)) pa_nil)))) pa_nil))))
      (pss_cons (ps_if (PW.pt (pw_or (pt_val (pe_call G_pair (hr.mono (by omega)) (by rfl) T.gis_pair T.fis_pair.kp T.nis_pair .nil pass0 (pa_cons (pv 4) pa_nil))) (pw_or (pt_val (pe_call G_fact (hr.mono (by omega)) (by rfl) T.gis_fact T.fis_fact.kp T.nis_fact .nil pass0 (pa_cons (pe_tup (pa_cons (pe_tup pa_nil) (pa_cons (pv 4) pa_nil))) pa_nil))) (pw_or (pt_val (pe_call G_fact (hr.mono (by omega)) (by rfl) T.gis_fact T.fis_fact.kp T.nis_fact .nil pass0 (pa_cons (pe_tup (pa_cons (pe_tup (pa_cons (pv 4) pa_nil)) (pa_cons pe_non pa_nil))) pa_nil))) (pw_or1 (pt_not (pt_val (pe_call G_fact (hr.mono (by omega)) (by rfl) T.gis_fact T.fis_fact.kp T.nis_fact .nil pass0 (pa_cons (pe_tup (pa_cons (pe_tup pa_nil) (pa_cons pe_non pa_nil))) pa_nil))))))))) (pss_one (ps_ret pe_bl)) pss_nil)
      (pss_cons (ps_set (i := 5) nd rfl (.inl rfl) (pe_tup (pa_cons (pe_tup (pa_cons (pe_tup (pa_cons (pe_tup (pa_cons pe_str pa_nil)) (pa_cons (pe_tup (pa_cons pe_str (pa_cons (pe_tup (pa_cons pe_str pa_nil)) pa_nil))) pa_nil))) pa_nil)) (pa_cons (pe_tup (pa_cons (pe_tup (pa_cons pe_str pa_nil)) (pa_cons (pe_tup (pa_cons pe_str pa_nil)) pa_nil))) pa_nil))))
      (pss_one (ps_ret (pe_and (pe_cmpR op_isBl (pe_call G_fact (hr.mono (by omega)) (by rfl) T.gis_fact T.fis_fact.kp T.nis_fact .nil pass0 (pa_cons (pv 5) pa_nil)) pe_bl (nomark _)) (pe_and (pe_cmpR (op_eqF (room200 hr)) (pe_callR (E := E0) G_mf (hr.mono (by omega)) (by rfl) T.gmake_fact T.fmake_fact.kp (passes_call takes00 (fun _ _ _ _ h => h)) (pa_cons pe_non pa_nil)) (pe_tup (pa_cons (pe_tup pa_nil) (pa_cons pe_non pa_nil))) (nomark _)) (pe_one (pe_cmpR (op_eqF (room200 hr)) (pe_call (E := E0) G_nof (hr.mono (by omega)) (by rfl) T.gnodes_of T.fnodes_of.kp T.nnodes_of .nil (passes_call takes00 (fun _ _ _ _ h => h)) (pa_cons (pe_tup (pa_cons (pe_tup pa_nil) (pa_cons pe_non pa_nil))) pa_nil)) (pe_tup pa_nil) (nomark _))))))))))), ?_⟩
  have jb : ∀ n : Nat, 1 ≤ (if (if (n : Int) < 8 then (n : Int) else 8) > 1 then (if (n : Int) < 8 then (n : Int) else 8) else 1) ∧ (if (if (n : Int) < 8 then (n : Int) else 8) > 1 then (if (n : Int) < 8 then (n : Int) else 8) else 1) ≤ 8 := fun n => by
    split <;> split <;> omega
  obtain ⟨j1, j2⟩ := jb (ns.map V.int).length
  refine ⟨_, rfl, a, _, rfl, .inl hS, 8, _, rfl, 1, _, rfl, _, rfl, by omega, by omega, ?_⟩
  generalize (if (if (((ns.map V.int).length : Nat) : Int) < 8 then (((ns.map V.int).length : Nat) : Int) else 8) > 1 then (if (((ns.map V.int).length : Nat) : Int) < 8 then (((ns.map V.int).length : Nat) : Int) else 8) else 1) = j at j1 j2 ⊢
  refine for_range (fun i σ H' => Same H H' ∧ ∃ y1 y2 y3, σ = [some (.ref a), y1, y2, y3, none, none]) ⟨Same.refl H, none, none, none, rfl⟩ ?_ ?_
  · rintro i σ H1 hi ⟨s1, y1, y2, y3, rfl⟩
    have hS1 : SqL K H1 a (ns.map V.int) := by
      rcases hS with (h | ⟨o, h⟩) | h
      · exact .inl (.inl (s1 _ _ h))
      · exact .inl (.inr ⟨o, s1 _ _ h⟩)
      · exact .inr h
    refine ⟨_, rfl, _, rfl, a, ns, i, ?_, hS1, by omega, fun H2 p s2 np d0 => ?_⟩
    · rw [Int.zero_add]
      rfl
    refine ⟨4, rfl, by decide, by decide, for_range (fun k σ G => But p H1 G ∧ Dice G p (5000 * k) ∧ ∃ y1 y3, σ = [some (.ref a), y1, some (.ref p), y3, none, none]) ⟨But.of s2, d0, _, _, rfl⟩ ?_ ?_⟩
    · rintro k σ G1 hk ⟨bG, dG, z1, z3, rfl⟩
      have hk : k < 4 := hk
      refine ⟨_, rfl, p, 5000 * k, rfl, dG, by unfold cap; omega, fun H4 b4 d4 => ⟨_, rfl, iteF ?_⟩⟩
      exact ⟨bG.trans b4, d4.le (by omega), _, _, rfl⟩
    · rintro σ G1 ⟨bG, dG, z1, z3, rfl⟩
      exact ⟨s1.trans fun b o h => bG b o h (ne_of_none h np), _, _, _, rfl⟩
  rintro σ H1 ⟨s1, y1, y2, y3, rfl⟩
  have mk_ca : ∀ {σ : L2.St} {H0 : Hp} (x : Str), MkH K σ H0 (tTup (tCons (tC (.str x)) tNil)) (ca x) := fun x => mh_tup (mh_cons (mh_str x) mh_nil) (le100 rfl)
  refine asg_mh (K := K) (d := unlikeD) (mh_tup (mh_cons (mh_tup (mh_cons (mh_str "f") (mh_cons (mk_ca "a") mh_nil)) (le100 rfl)) (mh_cons (mh_tup (mh_cons (mh_str "f") (mh_cons (mk_ca "a") (mh_cons (mk_ca "a") mh_nil))) (le100 rfl)) mh_nil)) (le100 rfl)) fun x4 H2 s2 d4 => ?_
  refine if_tsF ?_ fun H3 s3 => ?_
  · refine ts_orF (ts_pair (mh_var rfl d4) (by decide +kernel) (by decide +kernel) (by decide +kernel)) (ts_orF (ts_fact (d := .tuple [.tuple [], unlikeD]) (mh_tup (mh_cons (mh_tup mh_nil (le100 rfl)) (mh_cons (mh_var rfl d4) mh_nil)) (le100 rfl)) (smB_ok (by decide +kernel)) (by decide +kernel)) (ts_orF (ts_fact (d := .tuple [.tuple [unlikeD], .none]) (mh_tup (mh_cons (mh_tup (mh_cons (mh_var rfl d4) mh_nil) (le100 rfl)) (mh_cons mh_non mh_nil)) (le100 rfl)) (smB_ok (by decide +kernel)) (by decide +kernel)) (fun H' Q s q => ?_)))
    exact (ts_fact (K := K) (d := .tuple [.tuple [], .none]) (b := true) (mh_tup (mh_cons (mh_tup mh_nil (le100 rfl)) (mh_cons mh_non mh_nil)) (le100 rfl)) (smB_ok (by decide +kernel)) (by decide +kernel)) H' _ s q
  refine asg_mh (K := K) (d := apartD) (mh_tup (mh_cons (mh_tup (mh_cons (mh_tup (mh_cons (mk_ca "a") (mh_cons (mh_tup (mh_cons (mh_str "f") (mh_cons (mk_ca "b") mh_nil)) (le100 rfl)) mh_nil)) (le100 rfl)) mh_nil) (le100 rfl)) (mh_cons (mh_tup (mh_cons (mk_ca "b") (mh_cons (mk_ca "f") mh_nil)) (le100 rfl)) mh_nil)) (le100 rfl)) fun x5 H4 s4 d5 => ?_
  have sa := smB_ok (d := apartD) (by decide +kernel)
  refine ⟨_, rfl, x5, apartD, rfl, d5, sa.sh, sa.sz, sa.few, fun H5 s5 => ?_⟩
  rw [show factD apartD = false by decide +kernel]
  refine ⟨_, _, rfl, rfl, _, rfl, iteT ?_⟩
  have mkE : ∀ {σ : L2.St} {H0 : Hp}, MkH K σ H0 (tTup (tCons (tTup tNil) (tCons (tC .non) tNil))) (.tuple [.tuple [], .none]) := mh_tup (mh_cons (mh_tup mh_nil (le100 rfl)) (mh_cons mh_non mh_nil)) (le100 rfl)
  refine ⟨[.non], [], rfl, rfl, Nat.zero_le _, fun p np => ⟨.non, .none, p, [], [], rfl, upd_same, .non, .nil, rfl, by decide, by decide, by decide +kernel, fun y r H6 s6 dy fo => ?_⟩⟩
  have er := fo.uniq fo_empty (fun _ _ => Iff.rfl)
  subst er
  refine ⟨(fun z => by cases z), fun _ => ?_⟩
  refine mkE H6 _ (Same.refl _) fun y2 H7 s7 d7 => ?_
  refine ⟨_, _, Dx.dp rfl (dy.up s7), Dx.dp rfl d7, rfl, rfl, by decide +kernel, _, rfl, ?_⟩
  rw [show PyData.eqv (.tuple [.tuple [], .none]) (.tuple [.tuple [], .none]) = true by decide +kernel]
  refine iteT ?_
  have sE := smB_ok (d := .tuple [.tuple [], .none]) (by decide +kernel)
  refine ⟨Nat.zero_le _, fun t nt => ⟨by show 2 ≤ sizeLine; decide, fun x8 nx8 => ?_⟩⟩
  have sx := same_put (o := .tup [.ref t, .non]) nx8
  have d8 : Dx K (upd (upd H7 t (.tup [])) x8 (.tup [.ref t, .non])) (.ref x8) (.tuple [.tuple [], .none]) := .tup upd_same (.cons (.tup (sx _ _ upd_same) .nil) (.cons .non .nil))
  refine ⟨.ref x8, [], .none, rfl, ⟨d8, sE.sh, sE.sz, sE.few⟩, by decide +kernel, asc_nil, fun y9 L H9 s9 d9 o9 => ?_⟩
  have eL : L = [] := List.eq_nil_iff_forall_not_mem.mpr fun z hz => by
    have := (o9.mem z).mp hz
    cases this
  subst eL
  refine (mh_tup (K := K) mh_nil (le100 rfl)) H9 _ (Same.refl _) fun y10 H10 s10 d10 => ?_
  refine ⟨_, _, Dx.dp rfl (d9.up s10), Dx.dp rfl d10, rfl, rfl, by decide +kernel, ?_⟩
  rw [show PyData.eqv (.tuple []) (.tuple []) = true by decide +kernel]
  exact q _
end
end K11
open PySem PySem.Spec PyProof.Rows L2 Kx
theorem K11.tx_mk {K : PySem.W.Frag} {h : Heap} {mg : Str → Option Value} (X : K.In h) (G : h.Ns mainGlobals mg)
    {fpreorder : Addr} {odpreorder anpreorder : Option Addr} {slpreorder : Array (Option Value)} {ocpreorder kVpreorder dcpreorder pmpreorder cdpreorder ctpreorder : Value}
    {fwritten : Addr} {odwritten anwritten : Option Addr} {slwritten : Array (Option Value)} {ocwritten kVwritten dcwritten pmwritten cdwritten ctwritten : Value}
    {fnumbered_rows : Addr} {odnumbered_rows annumbered_rows : Option Addr} {slnumbered_rows : Array (Option Value)} {ocnumbered_rows kVnumbered_rows dcnumbered_rows pmnumbered_rows cdnumbered_rows ctnumbered_rows : Value}
    {fsizes_of : Addr} {odsizes_of ansizes_of : Option Addr} {slsizes_of : Array (Option Value)} {ocsizes_of kVsizes_of dcsizes_of pmsizes_of cdsizes_of ctsizes_of : Value}
    {fascending : Addr} {odascending anascending : Option Addr} {slascending : Array (Option Value)} {ocascending kVascending dcascending pmascending cdascending ctascending : Value}
    {forder_of : Addr} {odorder_of anorder_of : Option Addr} {slorder_of : Array (Option Value)} {ocorder_of kVorder_of dcorder_of pmorder_of cdorder_of ctorder_of : Value}
    {forder_by_ranks : Addr} {odorder_by_ranks anorder_by_ranks : Option Addr} {slorder_by_ranks : Array (Option Value)} {ocorder_by_ranks kVorder_by_ranks dcorder_by_ranks pmorder_by_ranks cdorder_by_ranks ctorder_by_ranks : Value}
    {franked : Addr} {odranked anranked : Option Addr} {slranked : Array (Option Value)} {ocranked kVranked dcranked pmranked cdranked ctranked : Value}
    {fdense : Addr} {oddense andense : Option Addr} {sldense : Array (Option Value)} {ocdense kVdense dcdense pmdense cddense ctdense : Value}
    {fis_name : Addr} {odis_name anis_name : Option Addr} {slis_name : Array (Option Value)} {ocis_name kVis_name dcis_name pmis_name cdis_name ctis_name : Value}
    {fis_term : Addr} {odis_term anis_term : Option Addr} {slis_term : Array (Option Value)} {ocis_term kVis_term dcis_term pmis_term cdis_term ctis_term : Value}
    {fcheck_term : Addr} {odcheck_term ancheck_term : Option Addr} {slcheck_term : Array (Option Value)} {occheck_term kVcheck_term dccheck_term pmcheck_term cdcheck_term ctcheck_term : Value}
    {fjoint_places : Addr} {odjoint_places anjoint_places : Option Addr} {sljoint_places : Array (Option Value)} {ocjoint_places kVjoint_places dcjoint_places pmjoint_places cdjoint_places ctjoint_places : Value}
    {fhas_form : Addr} {odhas_form anhas_form : Option Addr} {slhas_form : Array (Option Value)} {ochas_form kVhas_form dchas_form pmhas_form cdhas_form cthas_form : Value}
    {fby_name : Addr} {odby_name anby_name : Option Addr} {slby_name : Array (Option Value)} {ocby_name kVby_name dcby_name pmby_name cdby_name ctby_name : Value}
    {fis_pair : Addr} {odis_pair anis_pair : Option Addr} {slis_pair : Array (Option Value)} {ocis_pair kVis_pair dcis_pair pmis_pair cdis_pair ctis_pair : Value}
    {fis_fact : Addr} {odis_fact anis_fact : Option Addr} {slis_fact : Array (Option Value)} {ocis_fact kVis_fact dcis_fact pmis_fact cdis_fact ctis_fact : Value}
    {fmake_pair : Addr} {odmake_pair anmake_pair : Option Addr} {slmake_pair : Array (Option Value)} {ocmake_pair kVmake_pair dcmake_pair pmmake_pair cdmake_pair ctmake_pair : Value}
    {fmake_fact : Addr} {odmake_fact anmake_fact : Option Addr} {slmake_fact : Array (Option Value)} {ocmake_fact kVmake_fact dcmake_fact pmmake_fact cdmake_fact ctmake_fact : Value}
    {fplaces_in : Addr} {odplaces_in anplaces_in : Option Addr} {slplaces_in : Array (Option Value)} {ocplaces_in kVplaces_in dcplaces_in pmplaces_in cdplaces_in ctplaces_in : Value}
    {fterms_of : Addr} {odterms_of anterms_of : Option Addr} {slterms_of : Array (Option Value)} {octerms_of kVterms_of dcterms_of pmterms_of cdterms_of ctterms_of : Value}
    {fnodes_of : Addr} {odnodes_of annodes_of : Option Addr} {slnodes_of : Array (Option Value)} {ocnodes_of kVnodes_of dcnodes_of pmnodes_of cdnodes_of ctnodes_of : Value}
    {fcheck_fact : Addr} {odcheck_fact ancheck_fact : Option Addr} {slcheck_fact : Array (Option Value)} {occheck_fact kVcheck_fact dccheck_fact pmcheck_fact cdcheck_fact ctcheck_fact : Value}
    {fis_couple : Addr} {odis_couple anis_couple : Option Addr} {slis_couple : Array (Option Value)} {ocis_couple kVis_couple dcis_couple pmis_couple cdis_couple ctis_couple : Value}
    {fare_couples : Addr} {odare_couples anare_couples : Option Addr} {slare_couples : Array (Option Value)} {ocare_couples kVare_couples dcare_couples pmare_couples cdare_couples ctare_couples : Value}
    {fis_ordered : Addr} {odis_ordered anis_ordered : Option Addr} {slis_ordered : Array (Option Value)} {ocis_ordered kVis_ordered dcis_ordered pmis_ordered cdis_ordered ctis_ordered : Value}
    {fkey_of : Addr} {odkey_of ankey_of : Option Addr} {slkey_of : Array (Option Value)} {ockey_of kVkey_of dckey_of pmkey_of cdkey_of ctkey_of : Value}
    {fsides_of : Addr} {odsides_of ansides_of : Option Addr} {slsides_of : Array (Option Value)} {ocsides_of kVsides_of dcsides_of pmsides_of cdsides_of ctsides_of : Value}
    {fpairs_in : Addr} {odpairs_in anpairs_in : Option Addr} {slpairs_in : Array (Option Value)} {ocpairs_in kVpairs_in dcpairs_in pmpairs_in cdpairs_in ctpairs_in : Value}
    {fpairs_of : Addr} {odpairs_of anpairs_of : Option Addr} {slpairs_of : Array (Option Value)} {ocpairs_of kVpairs_of dcpairs_of pmpairs_of cdpairs_of ctpairs_of : Value}
    {ffact_of : Addr} {odfact_of anfact_of : Option Addr} {slfact_of : Array (Option Value)} {ocfact_of kVfact_of dcfact_of pmfact_of cdfact_of ctfact_of : Value}
    {f_law_dice : Addr} {od_law_dice an_law_dice : Option Addr} {sl_law_dice : Array (Option Value)} {oc_law_dice kV_law_dice dc_law_dice pm_law_dice cd_law_dice ct_law_dice : Value}
    {f_law_roll : Addr} {od_law_roll an_law_roll : Option Addr} {sl_law_roll : Array (Option Value)} {oc_law_roll kV_law_roll dc_law_roll pm_law_roll cd_law_roll ct_law_roll : Value}
    {f_law_pick : Addr} {od_law_pick an_law_pick : Option Addr} {sl_law_pick : Array (Option Value)} {oc_law_pick kV_law_pick dc_law_pick pm_law_pick cd_law_pick ct_law_pick : Value}
    {f_law_mixed : Addr} {od_law_mixed an_law_mixed : Option Addr} {sl_law_mixed : Array (Option Value)} {oc_law_mixed kV_law_mixed dc_law_mixed pm_law_mixed cd_law_mixed ct_law_mixed : Value}
    {f_law_text : Addr} {od_law_text an_law_text : Option Addr} {sl_law_text : Array (Option Value)} {oc_law_text kV_law_text dc_law_text pm_law_text cd_law_text ct_law_text : Value}
    {f_law_below : Addr} {od_law_below an_law_below : Option Addr} {sl_law_below : Array (Option Value)} {oc_law_below kV_law_below dc_law_below pm_law_below cd_law_below ct_law_below : Value}
    {f_law_pair : Addr} {od_law_pair an_law_pair : Option Addr} {sl_law_pair : Array (Option Value)} {oc_law_pair kV_law_pair dc_law_pair pm_law_pair cd_law_pair ct_law_pair : Value}
    {f_law_terms_in : Addr} {od_law_terms_in an_law_terms_in : Option Addr} {sl_law_terms_in : Array (Option Value)} {oc_law_terms_in kV_law_terms_in dc_law_terms_in pm_law_terms_in cd_law_terms_in ct_law_terms_in : Value}
    {f_law_names : Addr} {od_law_names an_law_names : Option Addr} {sl_law_names : Array (Option Value)} {oc_law_names kV_law_names dc_law_names pm_law_names cd_law_names ct_law_names : Value}
    {f_law_term : Addr} {od_law_term an_law_term : Option Addr} {sl_law_term : Array (Option Value)} {oc_law_term kV_law_term dc_law_term pm_law_term cd_law_term ct_law_term : Value}
    {f_law_drawn_pair : Addr} {od_law_drawn_pair an_law_drawn_pair : Option Addr} {sl_law_drawn_pair : Array (Option Value)} {oc_law_drawn_pair kV_law_drawn_pair dc_law_drawn_pair pm_law_drawn_pair cd_law_drawn_pair ct_law_drawn_pair : Value}
    {f_law_raw : Addr} {od_law_raw an_law_raw : Option Addr} {sl_law_raw : Array (Option Value)} {oc_law_raw kV_law_raw dc_law_raw pm_law_raw cd_law_raw ct_law_raw : Value}
    {f_law_due : Addr} {od_law_due an_law_due : Option Addr} {sl_law_due : Array (Option Value)} {oc_law_due kV_law_due dc_law_due pm_law_due cd_law_due ct_law_due : Value}
    {f_law_once : Addr} {od_law_once an_law_once : Option Addr} {sl_law_once : Array (Option Value)} {oc_law_once kV_law_once dc_law_once pm_law_once cd_law_once ct_law_once : Value}
    {f_law_made_right : Addr} {od_law_made_right an_law_made_right : Option Addr} {sl_law_made_right : Array (Option Value)} {oc_law_made_right kV_law_made_right dc_law_made_right pm_law_made_right cd_law_made_right ct_law_made_right : Value}
    {f_law_ten : Addr} {od_law_ten an_law_ten : Option Addr} {sl_law_ten : Array (Option Value)} {oc_law_ten kV_law_ten dc_law_ten pm_law_ten cd_law_ten ct_law_ten : Value}
    {f_law_judged_right : Addr} {od_law_judged_right an_law_judged_right : Option Addr} {sl_law_judged_right : Array (Option Value)} {oc_law_judged_right kV_law_judged_right dc_law_judged_right pm_law_judged_right cd_law_judged_right ct_law_judged_right : Value}
    {flaw : Addr} {odlaw anlaw : Option Addr} {sllaw : Array (Option Value)} {oclaw kVlaw dclaw pmlaw cdlaw ctlaw : Value}
    (apreorder : PySem.W.nsIn K mainGlobals "preorder" = some (some (.ref fpreorder))) (lpreorder : K.lookup fpreorder = some ⟨ocpreorder, odpreorder, .func (PySem.W.fnOf "preorder" "preorder" (defArgs K11.s_preorder) (defBody K11.s_preorder) (defScope K11.s_preorder) .none kVpreorder dcpreorder pmpreorder anpreorder cdpreorder ctpreorder), slpreorder⟩) (cpreorder : PySem.W.codeIn K cdpreorder "preorder" = true) (kpreorder : PySem.W.keepIn K (.ref fpreorder) = true)
    (awritten : PySem.W.nsIn K mainGlobals "written" = some (some (.ref fwritten))) (lwritten : K.lookup fwritten = some ⟨ocwritten, odwritten, .func (PySem.W.fnOf "written" "written" (defArgs K11.s_written) (defBody K11.s_written) (defScope K11.s_written) .none kVwritten dcwritten pmwritten anwritten cdwritten ctwritten), slwritten⟩) (cwritten : PySem.W.codeIn K cdwritten "written" = true) (kwritten : PySem.W.keepIn K (.ref fwritten) = true)
    (anumbered_rows : PySem.W.nsIn K mainGlobals "numbered_rows" = some (some (.ref fnumbered_rows))) (lnumbered_rows : K.lookup fnumbered_rows = some ⟨ocnumbered_rows, odnumbered_rows, .func (PySem.W.fnOf "numbered_rows" "numbered_rows" (defArgs K11.s_numbered_rows) (defBody K11.s_numbered_rows) (defScope K11.s_numbered_rows) .none kVnumbered_rows dcnumbered_rows pmnumbered_rows annumbered_rows cdnumbered_rows ctnumbered_rows), slnumbered_rows⟩) (cnumbered_rows : PySem.W.codeIn K cdnumbered_rows "numbered_rows" = true) (knumbered_rows : PySem.W.keepIn K (.ref fnumbered_rows) = true)
    (asizes_of : PySem.W.nsIn K mainGlobals "sizes_of" = some (some (.ref fsizes_of))) (lsizes_of : K.lookup fsizes_of = some ⟨ocsizes_of, odsizes_of, .func (PySem.W.fnOf "sizes_of" "sizes_of" (defArgs K11.s_sizes_of) (defBody K11.s_sizes_of) (defScope K11.s_sizes_of) .none kVsizes_of dcsizes_of pmsizes_of ansizes_of cdsizes_of ctsizes_of), slsizes_of⟩) (csizes_of : PySem.W.codeIn K cdsizes_of "sizes_of" = true) (ksizes_of : PySem.W.keepIn K (.ref fsizes_of) = true)
    (aascending : PySem.W.nsIn K mainGlobals "ascending" = some (some (.ref fascending))) (lascending : K.lookup fascending = some ⟨ocascending, odascending, .func (PySem.W.fnOf "ascending" "ascending" (defArgs K11.s_ascending) (defBody K11.s_ascending) (defScope K11.s_ascending) .none kVascending dcascending pmascending anascending cdascending ctascending), slascending⟩) (cascending : PySem.W.codeIn K cdascending "ascending" = true) (kascending : PySem.W.keepIn K (.ref fascending) = true)
    (aorder_of : PySem.W.nsIn K mainGlobals "order_of" = some (some (.ref forder_of))) (lorder_of : K.lookup forder_of = some ⟨ocorder_of, odorder_of, .func (PySem.W.fnOf "order_of" "order_of" (defArgs K11.s_order_of) (defBody K11.s_order_of) (defScope K11.s_order_of) .none kVorder_of dcorder_of pmorder_of anorder_of cdorder_of ctorder_of), slorder_of⟩) (corder_of : PySem.W.codeIn K cdorder_of "order_of" = true) (korder_of : PySem.W.keepIn K (.ref forder_of) = true)
    (aorder_by_ranks : PySem.W.nsIn K mainGlobals "order_by_ranks" = some (some (.ref forder_by_ranks))) (lorder_by_ranks : K.lookup forder_by_ranks = some ⟨ocorder_by_ranks, odorder_by_ranks, .func (PySem.W.fnOf "order_by_ranks" "order_by_ranks" (defArgs K11.s_order_by_ranks) (defBody K11.s_order_by_ranks) (defScope K11.s_order_by_ranks) .none kVorder_by_ranks dcorder_by_ranks pmorder_by_ranks anorder_by_ranks cdorder_by_ranks ctorder_by_ranks), slorder_by_ranks⟩) (corder_by_ranks : PySem.W.codeIn K cdorder_by_ranks "order_by_ranks" = true) (korder_by_ranks : PySem.W.keepIn K (.ref forder_by_ranks) = true)
    (aranked : PySem.W.nsIn K mainGlobals "ranked" = some (some (.ref franked))) (lranked : K.lookup franked = some ⟨ocranked, odranked, .func (PySem.W.fnOf "ranked" "ranked" (defArgs K11.s_ranked) (defBody K11.s_ranked) (defScope K11.s_ranked) .none kVranked dcranked pmranked anranked cdranked ctranked), slranked⟩) (cranked : PySem.W.codeIn K cdranked "ranked" = true) (kranked : PySem.W.keepIn K (.ref franked) = true)
    (adense : PySem.W.nsIn K mainGlobals "dense" = some (some (.ref fdense))) (ldense : K.lookup fdense = some ⟨ocdense, oddense, .func (PySem.W.fnOf "dense" "dense" (defArgs K11.s_dense) (defBody K11.s_dense) (defScope K11.s_dense) .none kVdense dcdense pmdense andense cddense ctdense), sldense⟩) (cdense : PySem.W.codeIn K cddense "dense" = true) (kdense : PySem.W.keepIn K (.ref fdense) = true)
    (ais_name : PySem.W.nsIn K mainGlobals "is_name" = some (some (.ref fis_name))) (lis_name : K.lookup fis_name = some ⟨ocis_name, odis_name, .func (PySem.W.fnOf "is_name" "is_name" (defArgs K11.s_is_name) (defBody K11.s_is_name) (defScope K11.s_is_name) .none kVis_name dcis_name pmis_name anis_name cdis_name ctis_name), slis_name⟩) (cis_name : PySem.W.codeIn K cdis_name "is_name" = true) (kis_name : PySem.W.keepIn K (.ref fis_name) = true)
    (ais_term : PySem.W.nsIn K mainGlobals "is_term" = some (some (.ref fis_term))) (lis_term : K.lookup fis_term = some ⟨ocis_term, odis_term, .func (PySem.W.fnOf "is_term" "is_term" (defArgs K11.s_is_term) (defBody K11.s_is_term) (defScope K11.s_is_term) .none kVis_term dcis_term pmis_term anis_term cdis_term ctis_term), slis_term⟩) (cis_term : PySem.W.codeIn K cdis_term "is_term" = true) (kis_term : PySem.W.keepIn K (.ref fis_term) = true)
    (acheck_term : PySem.W.nsIn K mainGlobals "check_term" = some (some (.ref fcheck_term))) (lcheck_term : K.lookup fcheck_term = some ⟨occheck_term, odcheck_term, .func (PySem.W.fnOf "check_term" "check_term" (defArgs K11.s_check_term) (defBody K11.s_check_term) (defScope K11.s_check_term) .none kVcheck_term dccheck_term pmcheck_term ancheck_term cdcheck_term ctcheck_term), slcheck_term⟩) (ccheck_term : PySem.W.codeIn K cdcheck_term "check_term" = true) (kcheck_term : PySem.W.keepIn K (.ref fcheck_term) = true)
    (ajoint_places : PySem.W.nsIn K mainGlobals "joint_places" = some (some (.ref fjoint_places))) (ljoint_places : K.lookup fjoint_places = some ⟨ocjoint_places, odjoint_places, .func (PySem.W.fnOf "joint_places" "joint_places" (defArgs K11.s_joint_places) (defBody K11.s_joint_places) (defScope K11.s_joint_places) .none kVjoint_places dcjoint_places pmjoint_places anjoint_places cdjoint_places ctjoint_places), sljoint_places⟩) (cjoint_places : PySem.W.codeIn K cdjoint_places "joint_places" = true) (kjoint_places : PySem.W.keepIn K (.ref fjoint_places) = true)
    (ahas_form : PySem.W.nsIn K mainGlobals "has_form" = some (some (.ref fhas_form))) (lhas_form : K.lookup fhas_form = some ⟨ochas_form, odhas_form, .func (PySem.W.fnOf "has_form" "has_form" (defArgs K11.s_has_form) (defBody K11.s_has_form) (defScope K11.s_has_form) .none kVhas_form dchas_form pmhas_form anhas_form cdhas_form cthas_form), slhas_form⟩) (chas_form : PySem.W.codeIn K cdhas_form "has_form" = true) (khas_form : PySem.W.keepIn K (.ref fhas_form) = true)
    (aby_name : PySem.W.nsIn K mainGlobals "by_name" = some (some (.ref fby_name))) (lby_name : K.lookup fby_name = some ⟨ocby_name, odby_name, .func (PySem.W.fnOf "by_name" "by_name" (defArgs K11.s_by_name) (defBody K11.s_by_name) (defScope K11.s_by_name) .none kVby_name dcby_name pmby_name anby_name cdby_name ctby_name), slby_name⟩) (cby_name : PySem.W.codeIn K cdby_name "by_name" = true) (kby_name : PySem.W.keepIn K (.ref fby_name) = true)
    (ais_pair : PySem.W.nsIn K mainGlobals "is_pair" = some (some (.ref fis_pair))) (lis_pair : K.lookup fis_pair = some ⟨ocis_pair, odis_pair, .func (PySem.W.fnOf "is_pair" "is_pair" (defArgs K11.s_is_pair) (defBody K11.s_is_pair) (defScope K11.s_is_pair) .none kVis_pair dcis_pair pmis_pair anis_pair cdis_pair ctis_pair), slis_pair⟩) (cis_pair : PySem.W.codeIn K cdis_pair "is_pair" = true) (kis_pair : PySem.W.keepIn K (.ref fis_pair) = true)
    (ais_fact : PySem.W.nsIn K mainGlobals "is_fact" = some (some (.ref fis_fact))) (lis_fact : K.lookup fis_fact = some ⟨ocis_fact, odis_fact, .func (PySem.W.fnOf "is_fact" "is_fact" (defArgs K11.s_is_fact) (defBody K11.s_is_fact) (defScope K11.s_is_fact) .none kVis_fact dcis_fact pmis_fact anis_fact cdis_fact ctis_fact), slis_fact⟩) (cis_fact : PySem.W.codeIn K cdis_fact "is_fact" = true) (kis_fact : PySem.W.keepIn K (.ref fis_fact) = true)
    (amake_pair : PySem.W.nsIn K mainGlobals "make_pair" = some (some (.ref fmake_pair))) (lmake_pair : K.lookup fmake_pair = some ⟨ocmake_pair, odmake_pair, .func (PySem.W.fnOf "make_pair" "make_pair" (defArgs K11.s_make_pair) (defBody K11.s_make_pair) (defScope K11.s_make_pair) .none kVmake_pair dcmake_pair pmmake_pair anmake_pair cdmake_pair ctmake_pair), slmake_pair⟩) (cmake_pair : PySem.W.codeIn K cdmake_pair "make_pair" = true) (kmake_pair : PySem.W.keepIn K (.ref fmake_pair) = true)
    (amake_fact : PySem.W.nsIn K mainGlobals "make_fact" = some (some (.ref fmake_fact))) (lmake_fact : K.lookup fmake_fact = some ⟨ocmake_fact, odmake_fact, .func (PySem.W.fnOf "make_fact" "make_fact" (defArgs K11.s_make_fact) (defBody K11.s_make_fact) (defScope K11.s_make_fact) .none kVmake_fact dcmake_fact pmmake_fact anmake_fact cdmake_fact ctmake_fact), slmake_fact⟩) (cmake_fact : PySem.W.codeIn K cdmake_fact "make_fact" = true) (kmake_fact : PySem.W.keepIn K (.ref fmake_fact) = true)
    (aplaces_in : PySem.W.nsIn K mainGlobals "places_in" = some (some (.ref fplaces_in))) (lplaces_in : K.lookup fplaces_in = some ⟨ocplaces_in, odplaces_in, .func (PySem.W.fnOf "places_in" "places_in" (defArgs K11.s_places_in) (defBody K11.s_places_in) (defScope K11.s_places_in) .none kVplaces_in dcplaces_in pmplaces_in anplaces_in cdplaces_in ctplaces_in), slplaces_in⟩) (cplaces_in : PySem.W.codeIn K cdplaces_in "places_in" = true) (kplaces_in : PySem.W.keepIn K (.ref fplaces_in) = true)
    (aterms_of : PySem.W.nsIn K mainGlobals "terms_of" = some (some (.ref fterms_of))) (lterms_of : K.lookup fterms_of = some ⟨octerms_of, odterms_of, .func (PySem.W.fnOf "terms_of" "terms_of" (defArgs K11.s_terms_of) (defBody K11.s_terms_of) (defScope K11.s_terms_of) .none kVterms_of dcterms_of pmterms_of anterms_of cdterms_of ctterms_of), slterms_of⟩) (cterms_of : PySem.W.codeIn K cdterms_of "terms_of" = true) (kterms_of : PySem.W.keepIn K (.ref fterms_of) = true)
    (anodes_of : PySem.W.nsIn K mainGlobals "nodes_of" = some (some (.ref fnodes_of))) (lnodes_of : K.lookup fnodes_of = some ⟨ocnodes_of, odnodes_of, .func (PySem.W.fnOf "nodes_of" "nodes_of" (defArgs K11.s_nodes_of) (defBody K11.s_nodes_of) (defScope K11.s_nodes_of) .none kVnodes_of dcnodes_of pmnodes_of annodes_of cdnodes_of ctnodes_of), slnodes_of⟩) (cnodes_of : PySem.W.codeIn K cdnodes_of "nodes_of" = true) (knodes_of : PySem.W.keepIn K (.ref fnodes_of) = true)
    (acheck_fact : PySem.W.nsIn K mainGlobals "check_fact" = some (some (.ref fcheck_fact))) (lcheck_fact : K.lookup fcheck_fact = some ⟨occheck_fact, odcheck_fact, .func (PySem.W.fnOf "check_fact" "check_fact" (defArgs K11.s_check_fact) (defBody K11.s_check_fact) (defScope K11.s_check_fact) .none kVcheck_fact dccheck_fact pmcheck_fact ancheck_fact cdcheck_fact ctcheck_fact), slcheck_fact⟩) (ccheck_fact : PySem.W.codeIn K cdcheck_fact "check_fact" = true) (kcheck_fact : PySem.W.keepIn K (.ref fcheck_fact) = true)
    (ais_couple : PySem.W.nsIn K mainGlobals "is_couple" = some (some (.ref fis_couple))) (lis_couple : K.lookup fis_couple = some ⟨ocis_couple, odis_couple, .func (PySem.W.fnOf "is_couple" "is_couple" (defArgs K11.s_is_couple) (defBody K11.s_is_couple) (defScope K11.s_is_couple) .none kVis_couple dcis_couple pmis_couple anis_couple cdis_couple ctis_couple), slis_couple⟩) (cis_couple : PySem.W.codeIn K cdis_couple "is_couple" = true) (kis_couple : PySem.W.keepIn K (.ref fis_couple) = true)
    (aare_couples : PySem.W.nsIn K mainGlobals "are_couples" = some (some (.ref fare_couples))) (lare_couples : K.lookup fare_couples = some ⟨ocare_couples, odare_couples, .func (PySem.W.fnOf "are_couples" "are_couples" (defArgs K11.s_are_couples) (defBody K11.s_are_couples) (defScope K11.s_are_couples) .none kVare_couples dcare_couples pmare_couples anare_couples cdare_couples ctare_couples), slare_couples⟩) (care_couples : PySem.W.codeIn K cdare_couples "are_couples" = true) (kare_couples : PySem.W.keepIn K (.ref fare_couples) = true)
    (ais_ordered : PySem.W.nsIn K mainGlobals "is_ordered" = some (some (.ref fis_ordered))) (lis_ordered : K.lookup fis_ordered = some ⟨ocis_ordered, odis_ordered, .func (PySem.W.fnOf "is_ordered" "is_ordered" (defArgs K11.s_is_ordered) (defBody K11.s_is_ordered) (defScope K11.s_is_ordered) .none kVis_ordered dcis_ordered pmis_ordered anis_ordered cdis_ordered ctis_ordered), slis_ordered⟩) (cis_ordered : PySem.W.codeIn K cdis_ordered "is_ordered" = true) (kis_ordered : PySem.W.keepIn K (.ref fis_ordered) = true)
    (akey_of : PySem.W.nsIn K mainGlobals "key_of" = some (some (.ref fkey_of))) (lkey_of : K.lookup fkey_of = some ⟨ockey_of, odkey_of, .func (PySem.W.fnOf "key_of" "key_of" (defArgs K11.s_key_of) (defBody K11.s_key_of) (defScope K11.s_key_of) .none kVkey_of dckey_of pmkey_of ankey_of cdkey_of ctkey_of), slkey_of⟩) (ckey_of : PySem.W.codeIn K cdkey_of "key_of" = true) (kkey_of : PySem.W.keepIn K (.ref fkey_of) = true)
    (asides_of : PySem.W.nsIn K mainGlobals "sides_of" = some (some (.ref fsides_of))) (lsides_of : K.lookup fsides_of = some ⟨ocsides_of, odsides_of, .func (PySem.W.fnOf "sides_of" "sides_of" (defArgs K11.s_sides_of) (defBody K11.s_sides_of) (defScope K11.s_sides_of) .none kVsides_of dcsides_of pmsides_of ansides_of cdsides_of ctsides_of), slsides_of⟩) (csides_of : PySem.W.codeIn K cdsides_of "sides_of" = true) (ksides_of : PySem.W.keepIn K (.ref fsides_of) = true)
    (apairs_in : PySem.W.nsIn K mainGlobals "pairs_in" = some (some (.ref fpairs_in))) (lpairs_in : K.lookup fpairs_in = some ⟨ocpairs_in, odpairs_in, .func (PySem.W.fnOf "pairs_in" "pairs_in" (defArgs K11.s_pairs_in) (defBody K11.s_pairs_in) (defScope K11.s_pairs_in) .none kVpairs_in dcpairs_in pmpairs_in anpairs_in cdpairs_in ctpairs_in), slpairs_in⟩) (cpairs_in : PySem.W.codeIn K cdpairs_in "pairs_in" = true) (kpairs_in : PySem.W.keepIn K (.ref fpairs_in) = true)
    (apairs_of : PySem.W.nsIn K mainGlobals "pairs_of" = some (some (.ref fpairs_of))) (lpairs_of : K.lookup fpairs_of = some ⟨ocpairs_of, odpairs_of, .func (PySem.W.fnOf "pairs_of" "pairs_of" (defArgs K11.s_pairs_of) (defBody K11.s_pairs_of) (defScope K11.s_pairs_of) .none kVpairs_of dcpairs_of pmpairs_of anpairs_of cdpairs_of ctpairs_of), slpairs_of⟩) (cpairs_of : PySem.W.codeIn K cdpairs_of "pairs_of" = true) (kpairs_of : PySem.W.keepIn K (.ref fpairs_of) = true)
    (afact_of : PySem.W.nsIn K mainGlobals "fact_of" = some (some (.ref ffact_of))) (lfact_of : K.lookup ffact_of = some ⟨ocfact_of, odfact_of, .func (PySem.W.fnOf "fact_of" "fact_of" (defArgs K11.s_fact_of) (defBody K11.s_fact_of) (defScope K11.s_fact_of) .none kVfact_of dcfact_of pmfact_of anfact_of cdfact_of ctfact_of), slfact_of⟩) (cfact_of : PySem.W.codeIn K cdfact_of "fact_of" = true) (kfact_of : PySem.W.keepIn K (.ref ffact_of) = true)
    (a_law_dice : PySem.W.nsIn K mainGlobals "_law_dice" = some (some (.ref f_law_dice))) (l_law_dice : K.lookup f_law_dice = some ⟨oc_law_dice, od_law_dice, .func (PySem.W.fnOf "_law_dice" "_law_dice" (defArgs K11.s__law_dice) (defBody K11.s__law_dice) (defScope K11.s__law_dice) .none kV_law_dice dc_law_dice pm_law_dice an_law_dice cd_law_dice ct_law_dice), sl_law_dice⟩) (c_law_dice : PySem.W.codeIn K cd_law_dice "_law_dice" = true) (k_law_dice : PySem.W.keepIn K (.ref f_law_dice) = true)
    (a_law_roll : PySem.W.nsIn K mainGlobals "_law_roll" = some (some (.ref f_law_roll))) (l_law_roll : K.lookup f_law_roll = some ⟨oc_law_roll, od_law_roll, .func (PySem.W.fnOf "_law_roll" "_law_roll" (defArgs K11.s__law_roll) (defBody K11.s__law_roll) (defScope K11.s__law_roll) .none kV_law_roll dc_law_roll pm_law_roll an_law_roll cd_law_roll ct_law_roll), sl_law_roll⟩) (c_law_roll : PySem.W.codeIn K cd_law_roll "_law_roll" = true) (k_law_roll : PySem.W.keepIn K (.ref f_law_roll) = true)
    (a_law_pick : PySem.W.nsIn K mainGlobals "_law_pick" = some (some (.ref f_law_pick))) (l_law_pick : K.lookup f_law_pick = some ⟨oc_law_pick, od_law_pick, .func (PySem.W.fnOf "_law_pick" "_law_pick" (defArgs K11.s__law_pick) (defBody K11.s__law_pick) (defScope K11.s__law_pick) .none kV_law_pick dc_law_pick pm_law_pick an_law_pick cd_law_pick ct_law_pick), sl_law_pick⟩) (c_law_pick : PySem.W.codeIn K cd_law_pick "_law_pick" = true) (k_law_pick : PySem.W.keepIn K (.ref f_law_pick) = true)
    (a_law_mixed : PySem.W.nsIn K mainGlobals "_law_mixed" = some (some (.ref f_law_mixed))) (l_law_mixed : K.lookup f_law_mixed = some ⟨oc_law_mixed, od_law_mixed, .func (PySem.W.fnOf "_law_mixed" "_law_mixed" (defArgs K11.s__law_mixed) (defBody K11.s__law_mixed) (defScope K11.s__law_mixed) .none kV_law_mixed dc_law_mixed pm_law_mixed an_law_mixed cd_law_mixed ct_law_mixed), sl_law_mixed⟩) (c_law_mixed : PySem.W.codeIn K cd_law_mixed "_law_mixed" = true) (k_law_mixed : PySem.W.keepIn K (.ref f_law_mixed) = true)
    (a_law_text : PySem.W.nsIn K mainGlobals "_law_text" = some (some (.ref f_law_text))) (l_law_text : K.lookup f_law_text = some ⟨oc_law_text, od_law_text, .func (PySem.W.fnOf "_law_text" "_law_text" (defArgs K11.s__law_text) (defBody K11.s__law_text) (defScope K11.s__law_text) .none kV_law_text dc_law_text pm_law_text an_law_text cd_law_text ct_law_text), sl_law_text⟩) (c_law_text : PySem.W.codeIn K cd_law_text "_law_text" = true) (k_law_text : PySem.W.keepIn K (.ref f_law_text) = true)
    (a_law_below : PySem.W.nsIn K mainGlobals "_law_below" = some (some (.ref f_law_below))) (l_law_below : K.lookup f_law_below = some ⟨oc_law_below, od_law_below, .func (PySem.W.fnOf "_law_below" "_law_below" (defArgs K11.s__law_below) (defBody K11.s__law_below) (defScope K11.s__law_below) .none kV_law_below dc_law_below pm_law_below an_law_below cd_law_below ct_law_below), sl_law_below⟩) (c_law_below : PySem.W.codeIn K cd_law_below "_law_below" = true) (k_law_below : PySem.W.keepIn K (.ref f_law_below) = true)
    (a_law_pair : PySem.W.nsIn K mainGlobals "_law_pair" = some (some (.ref f_law_pair))) (l_law_pair : K.lookup f_law_pair = some ⟨oc_law_pair, od_law_pair, .func (PySem.W.fnOf "_law_pair" "_law_pair" (defArgs K11.s__law_pair) (defBody K11.s__law_pair) (defScope K11.s__law_pair) .none kV_law_pair dc_law_pair pm_law_pair an_law_pair cd_law_pair ct_law_pair), sl_law_pair⟩) (c_law_pair : PySem.W.codeIn K cd_law_pair "_law_pair" = true) (k_law_pair : PySem.W.keepIn K (.ref f_law_pair) = true)
    (a_law_terms_in : PySem.W.nsIn K mainGlobals "_law_terms_in" = some (some (.ref f_law_terms_in))) (l_law_terms_in : K.lookup f_law_terms_in = some ⟨oc_law_terms_in, od_law_terms_in, .func (PySem.W.fnOf "_law_terms_in" "_law_terms_in" (defArgs K11.s__law_terms_in) (defBody K11.s__law_terms_in) (defScope K11.s__law_terms_in) .none kV_law_terms_in dc_law_terms_in pm_law_terms_in an_law_terms_in cd_law_terms_in ct_law_terms_in), sl_law_terms_in⟩) (c_law_terms_in : PySem.W.codeIn K cd_law_terms_in "_law_terms_in" = true) (k_law_terms_in : PySem.W.keepIn K (.ref f_law_terms_in) = true)
    (a_law_names : PySem.W.nsIn K mainGlobals "_law_names" = some (some (.ref f_law_names))) (l_law_names : K.lookup f_law_names = some ⟨oc_law_names, od_law_names, .func (PySem.W.fnOf "_law_names" "_law_names" (defArgs K11.s__law_names) (defBody K11.s__law_names) (defScope K11.s__law_names) .none kV_law_names dc_law_names pm_law_names an_law_names cd_law_names ct_law_names), sl_law_names⟩) (c_law_names : PySem.W.codeIn K cd_law_names "_law_names" = true) (k_law_names : PySem.W.keepIn K (.ref f_law_names) = true)
    (a_law_term : PySem.W.nsIn K mainGlobals "_law_term" = some (some (.ref f_law_term))) (l_law_term : K.lookup f_law_term = some ⟨oc_law_term, od_law_term, .func (PySem.W.fnOf "_law_term" "_law_term" (defArgs K11.s__law_term) (defBody K11.s__law_term) (defScope K11.s__law_term) .none kV_law_term dc_law_term pm_law_term an_law_term cd_law_term ct_law_term), sl_law_term⟩) (c_law_term : PySem.W.codeIn K cd_law_term "_law_term" = true) (k_law_term : PySem.W.keepIn K (.ref f_law_term) = true)
    (a_law_drawn_pair : PySem.W.nsIn K mainGlobals "_law_drawn_pair" = some (some (.ref f_law_drawn_pair))) (l_law_drawn_pair : K.lookup f_law_drawn_pair = some ⟨oc_law_drawn_pair, od_law_drawn_pair, .func (PySem.W.fnOf "_law_drawn_pair" "_law_drawn_pair" (defArgs K11.s__law_drawn_pair) (defBody K11.s__law_drawn_pair) (defScope K11.s__law_drawn_pair) .none kV_law_drawn_pair dc_law_drawn_pair pm_law_drawn_pair an_law_drawn_pair cd_law_drawn_pair ct_law_drawn_pair), sl_law_drawn_pair⟩) (c_law_drawn_pair : PySem.W.codeIn K cd_law_drawn_pair "_law_drawn_pair" = true) (k_law_drawn_pair : PySem.W.keepIn K (.ref f_law_drawn_pair) = true)
    (a_law_raw : PySem.W.nsIn K mainGlobals "_law_raw" = some (some (.ref f_law_raw))) (l_law_raw : K.lookup f_law_raw = some ⟨oc_law_raw, od_law_raw, .func (PySem.W.fnOf "_law_raw" "_law_raw" (defArgs K11.s__law_raw) (defBody K11.s__law_raw) (defScope K11.s__law_raw) .none kV_law_raw dc_law_raw pm_law_raw an_law_raw cd_law_raw ct_law_raw), sl_law_raw⟩) (c_law_raw : PySem.W.codeIn K cd_law_raw "_law_raw" = true) (k_law_raw : PySem.W.keepIn K (.ref f_law_raw) = true)
    (a_law_due : PySem.W.nsIn K mainGlobals "_law_due" = some (some (.ref f_law_due))) (l_law_due : K.lookup f_law_due = some ⟨oc_law_due, od_law_due, .func (PySem.W.fnOf "_law_due" "_law_due" (defArgs K11.s__law_due) (defBody K11.s__law_due) (defScope K11.s__law_due) .none kV_law_due dc_law_due pm_law_due an_law_due cd_law_due ct_law_due), sl_law_due⟩) (c_law_due : PySem.W.codeIn K cd_law_due "_law_due" = true) (k_law_due : PySem.W.keepIn K (.ref f_law_due) = true)
    (a_law_once : PySem.W.nsIn K mainGlobals "_law_once" = some (some (.ref f_law_once))) (l_law_once : K.lookup f_law_once = some ⟨oc_law_once, od_law_once, .func (PySem.W.fnOf "_law_once" "_law_once" (defArgs K11.s__law_once) (defBody K11.s__law_once) (defScope K11.s__law_once) .none kV_law_once dc_law_once pm_law_once an_law_once cd_law_once ct_law_once), sl_law_once⟩) (c_law_once : PySem.W.codeIn K cd_law_once "_law_once" = true) (k_law_once : PySem.W.keepIn K (.ref f_law_once) = true)
    (a_law_made_right : PySem.W.nsIn K mainGlobals "_law_made_right" = some (some (.ref f_law_made_right))) (l_law_made_right : K.lookup f_law_made_right = some ⟨oc_law_made_right, od_law_made_right, .func (PySem.W.fnOf "_law_made_right" "_law_made_right" (defArgs K11.s__law_made_right) (defBody K11.s__law_made_right) (defScope K11.s__law_made_right) .none kV_law_made_right dc_law_made_right pm_law_made_right an_law_made_right cd_law_made_right ct_law_made_right), sl_law_made_right⟩) (c_law_made_right : PySem.W.codeIn K cd_law_made_right "_law_made_right" = true) (k_law_made_right : PySem.W.keepIn K (.ref f_law_made_right) = true)
    (a_law_ten : PySem.W.nsIn K mainGlobals "_law_ten" = some (some (.ref f_law_ten))) (l_law_ten : K.lookup f_law_ten = some ⟨oc_law_ten, od_law_ten, .func (PySem.W.fnOf "_law_ten" "_law_ten" (defArgs K11.s__law_ten) (defBody K11.s__law_ten) (defScope K11.s__law_ten) .none kV_law_ten dc_law_ten pm_law_ten an_law_ten cd_law_ten ct_law_ten), sl_law_ten⟩) (c_law_ten : PySem.W.codeIn K cd_law_ten "_law_ten" = true) (k_law_ten : PySem.W.keepIn K (.ref f_law_ten) = true)
    (a_law_judged_right : PySem.W.nsIn K mainGlobals "_law_judged_right" = some (some (.ref f_law_judged_right))) (l_law_judged_right : K.lookup f_law_judged_right = some ⟨oc_law_judged_right, od_law_judged_right, .func (PySem.W.fnOf "_law_judged_right" "_law_judged_right" (defArgs K11.s__law_judged_right) (defBody K11.s__law_judged_right) (defScope K11.s__law_judged_right) .none kV_law_judged_right dc_law_judged_right pm_law_judged_right an_law_judged_right cd_law_judged_right ct_law_judged_right), sl_law_judged_right⟩) (c_law_judged_right : PySem.W.codeIn K cd_law_judged_right "_law_judged_right" = true) (k_law_judged_right : PySem.W.keepIn K (.ref f_law_judged_right) = true)
    (alaw : PySem.W.nsIn K mainGlobals "law" = some (some (.ref flaw))) (llaw : K.lookup flaw = some ⟨oclaw, odlaw, .func (PySem.W.fnOf "law" "law" (defArgs K11.s_law) (defBody K11.s_law) (defScope K11.s_law) .none kVlaw dclaw pmlaw anlaw cdlaw ctlaw), sllaw⟩) (claw : PySem.W.codeIn K cdlaw "law" = true) (klaw : PySem.W.keepIn K (.ref flaw) = true)
    (zabs : PySem.W.nsIn K mainGlobals "abs" = some none)
    (zall : PySem.W.nsIn K mainGlobals "all" = some none)
    (zdict : PySem.W.nsIn K mainGlobals "dict" = some none)
    (zenumerate : PySem.W.nsIn K mainGlobals "enumerate" = some none)
    (zint : PySem.W.nsIn K mainGlobals "int" = some none)
    (zisinstance : PySem.W.nsIn K mainGlobals "isinstance" = some none)
    (zlen : PySem.W.nsIn K mainGlobals "len" = some none)
    (zlist : PySem.W.nsIn K mainGlobals "list" = some none)
    (zmax : PySem.W.nsIn K mainGlobals "max" = some none)
    (zmin : PySem.W.nsIn K mainGlobals "min" = some none)
    (zrange : PySem.W.nsIn K mainGlobals "range" = some none)
    (zset : PySem.W.nsIn K mainGlobals "set" = some none)
    (zsorted : PySem.W.nsIn K mainGlobals "sorted" = some none)
    (zstr : PySem.W.nsIn K mainGlobals "str" = some none)
    (zsum : PySem.W.nsIn K mainGlobals "sum" = some none)
    (ztuple : PySem.W.nsIn K mainGlobals "tuple" = some none)
    (zzip : PySem.W.nsIn K mainGlobals "zip" = some none)
    {CInvalidTerm : Addr} (nInvalidTerm : PySem.W.nsIn K mainGlobals "InvalidTerm" = some (some (.ref CInvalidTerm))) (xInvalidTerm : PySem.W.excIn K CInvalidTerm [.type "ValueError", .type "Exception", .type "BaseException", .type "object"] "ValueError.__new__" = true) (kInvalidTerm : PySem.W.keepIn K (.ref CInvalidTerm) = true) (bInvalidTerm : PySem.W.subIn K (.ref CInvalidTerm) (.type "BaseException") = some true) (tInvalidTerm : PySem.W.typeIn K (.ref CInvalidTerm) = some (.type "type")) (iInvalidTerm : PySem.W.isClsIn K CInvalidTerm = true) (sInvalidTerm : PySem.W.subIn K (.ref CInvalidTerm) (.ref CInvalidTerm) = some true)
    {CInvalidFact : Addr} (nInvalidFact : PySem.W.nsIn K mainGlobals "InvalidFact" = some (some (.ref CInvalidFact))) (xInvalidFact : PySem.W.excIn K CInvalidFact [.type "ValueError", .type "Exception", .type "BaseException", .type "object"] "ValueError.__new__" = true) (kInvalidFact : PySem.W.keepIn K (.ref CInvalidFact) = true) (bInvalidFact : PySem.W.subIn K (.ref CInvalidFact) (.type "BaseException") = some true) (tInvalidFact : PySem.W.typeIn K (.ref CInvalidFact) = some (.type "type")) (iInvalidFact : PySem.W.isClsIn K CInvalidFact = true) (sInvalidFact : PySem.W.subIn K (.ref CInvalidFact) (.ref CInvalidFact) = some true)
    {CInvalidOperation : Addr} (nInvalidOperation : PySem.W.nsIn K mainGlobals "InvalidOperation" = some (some (.ref CInvalidOperation))) (xInvalidOperation : PySem.W.excIn K CInvalidOperation [.type "ValueError", .type "Exception", .type "BaseException", .type "object"] "ValueError.__new__" = true) (kInvalidOperation : PySem.W.keepIn K (.ref CInvalidOperation) = true) (bInvalidOperation : PySem.W.subIn K (.ref CInvalidOperation) (.type "BaseException") = some true) (tInvalidOperation : PySem.W.typeIn K (.ref CInvalidOperation) = some (.type "type")) (iInvalidOperation : PySem.W.isClsIn K CInvalidOperation = true) (sInvalidOperation : PySem.W.subIn K (.ref CInvalidOperation) (.ref CInvalidOperation) = some true)
    {tFIRST_WIDTH : Tok} (zFIRST_WIDTH : PySem.W.nsIn K mainGlobals "FIRST_WIDTH" = some (some (.int 16 tFIRST_WIDTH)))
    {tMANY_PARTS : Tok} (zMANY_PARTS : PySem.W.nsIn K mainGlobals "MANY_PARTS" = some (some (.int 100000 tMANY_PARTS)))
    {tMAX_PLACES : Tok} (zMAX_PLACES : PySem.W.nsIn K mainGlobals "MAX_PLACES" = some (some (.int 3 tMAX_PLACES)))
    {tLONGEST_NAME : Tok} (zLONGEST_NAME : PySem.W.nsIn K mainGlobals "LONGEST_NAME" = some (some (.int 8 tLONGEST_NAME)))
    : ∃ T : K11.Tx K mg, T.alaw = flaw ∧ T.dlaw = PySem.W.fnOf "law" "law" (defArgs K11.s_law) (defBody K11.s_law) (defScope K11.s_law) .none kVlaw dclaw pmlaw anlaw cdlaw ctlaw := by
  have Fpreorder := fun_mk (st := K11.s_preorder) lpreorder cpreorder kpreorder
  have Bpreorder := Fpreorder.binds (ps := ["terms"]) fun _ _ _ _ _ _ us hl => match us, hl with | [_], _ => rfl
  have Fwritten := fun_mk (st := K11.s_written) lwritten cwritten kwritten
  have Bwritten := Fwritten.binds (ps := ["term"]) fun _ _ _ _ _ _ us hl => match us, hl with | [_], _ => rfl
  have Fnumbered_rows := fun_mk (st := K11.s_numbered_rows) lnumbered_rows cnumbered_rows knumbered_rows
  have Bnumbered_rows := Fnumbered_rows.binds (ps := ["parts"]) fun _ _ _ _ _ _ us hl => match us, hl with | [_], _ => rfl
  have Fsizes_of := fun_mk (st := K11.s_sizes_of) lsizes_of csizes_of ksizes_of
  have Bsizes_of := Fsizes_of.binds (ps := ["rows"]) fun _ _ _ _ _ _ us hl => match us, hl with | [_], _ => rfl
  have Fascending := fun_mk (st := K11.s_ascending) lascending cascending kascending
  have Bascending := Fascending.binds (ps := ["terms"]) fun _ _ _ _ _ _ us hl => match us, hl with | [_], _ => rfl
  have Forder_of := fun_mk (st := K11.s_order_of) lorder_of corder_of korder_of
  have Border_of := Forder_of.binds (ps := ["rows"]) fun _ _ _ _ _ _ us hl => match us, hl with | [_], _ => rfl
  have Forder_by_ranks := fun_mk (st := K11.s_order_by_ranks) lorder_by_ranks corder_by_ranks korder_by_ranks
  have Border_by_ranks := Forder_by_ranks.binds (ps := ["rows"]) fun _ _ _ _ _ _ us hl => match us, hl with | [_], _ => rfl
  have Franked := fun_mk (st := K11.s_ranked) lranked cranked kranked
  have Branked := Franked.binds (ps := ["names"]) fun _ _ _ _ _ _ us hl => match us, hl with | [_], _ => rfl
  have Fdense := fun_mk (st := K11.s_dense) ldense cdense kdense
  have Bdense := Fdense.binds (ps := ["keys"]) fun _ _ _ _ _ _ us hl => match us, hl with | [_], _ => rfl
  have Fis_name := fun_mk (st := K11.s_is_name) lis_name cis_name kis_name
  have Bis_name := Fis_name.binds (ps := ["value"]) fun _ _ _ _ _ _ us hl => match us, hl with | [_], _ => rfl
  have Fis_term := fun_mk (st := K11.s_is_term) lis_term cis_term kis_term
  have Bis_term := Fis_term.binds (ps := ["value"]) fun _ _ _ _ _ _ us hl => match us, hl with | [_], _ => rfl
  have Fcheck_term := fun_mk (st := K11.s_check_term) lcheck_term ccheck_term kcheck_term
  have Bcheck_term := Fcheck_term.binds (ps := ["value"]) fun _ _ _ _ _ _ us hl => match us, hl with | [_], _ => rfl
  have Fjoint_places := fun_mk (st := K11.s_joint_places) ljoint_places cjoint_places kjoint_places
  have Bjoint_places := Fjoint_places.binds (ps := ["values"]) fun _ _ _ _ _ _ us hl => match us, hl with | [_], _ => rfl
  have Fhas_form := fun_mk (st := K11.s_has_form) lhas_form chas_form khas_form
  have Bhas_form := Fhas_form.binds (ps := ["value"]) fun _ _ _ _ _ _ us hl => match us, hl with | [_], _ => rfl
  have Fby_name := fun_mk (st := K11.s_by_name) lby_name cby_name kby_name
  have Bby_name := Fby_name.binds (ps := ["places"]) fun _ _ _ _ _ _ us hl => match us, hl with | [_], _ => rfl
  have Fis_pair := fun_mk (st := K11.s_is_pair) lis_pair cis_pair kis_pair
  have Bis_pair := Fis_pair.binds (ps := ["value"]) fun _ _ _ _ _ _ us hl => match us, hl with | [_], _ => rfl
  have Fis_fact := fun_mk (st := K11.s_is_fact) lis_fact cis_fact kis_fact
  have Bis_fact := Fis_fact.binds (ps := ["value"]) fun _ _ _ _ _ _ us hl => match us, hl with | [_], _ => rfl
  have Fmake_pair := fun_mk (st := K11.s_make_pair) lmake_pair cmake_pair kmake_pair
  have Bmake_pair := Fmake_pair.binds (ps := ["term", "other"]) fun _ _ _ _ _ _ us hl => match us, hl with | [_, _], _ => rfl
  have Fmake_fact := fun_mk (st := K11.s_make_fact) lmake_fact cmake_fact kmake_fact
  have Fplaces_in := fun_mk (st := K11.s_places_in) lplaces_in cplaces_in kplaces_in
  have Bplaces_in := Fplaces_in.binds (ps := ["fact"]) fun _ _ _ _ _ _ us hl => match us, hl with | [_], _ => rfl
  have Fterms_of := fun_mk (st := K11.s_terms_of) lterms_of cterms_of kterms_of
  have Bterms_of := Fterms_of.binds (ps := ["fact"]) fun _ _ _ _ _ _ us hl => match us, hl with | [_], _ => rfl
  have Fnodes_of := fun_mk (st := K11.s_nodes_of) lnodes_of cnodes_of knodes_of
  have Bnodes_of := Fnodes_of.binds (ps := ["fact"]) fun _ _ _ _ _ _ us hl => match us, hl with | [_], _ => rfl
  have Fcheck_fact := fun_mk (st := K11.s_check_fact) lcheck_fact ccheck_fact kcheck_fact
  have Bcheck_fact := Fcheck_fact.binds (ps := ["value"]) fun _ _ _ _ _ _ us hl => match us, hl with | [_], _ => rfl
  have Fis_couple := fun_mk (st := K11.s_is_couple) lis_couple cis_couple kis_couple
  have Bis_couple := Fis_couple.binds (ps := ["value"]) fun _ _ _ _ _ _ us hl => match us, hl with | [_], _ => rfl
  have Fare_couples := fun_mk (st := K11.s_are_couples) lare_couples care_couples kare_couples
  have Bare_couples := Fare_couples.binds (ps := ["values"]) fun _ _ _ _ _ _ us hl => match us, hl with | [_], _ => rfl
  have Fis_ordered := fun_mk (st := K11.s_is_ordered) lis_ordered cis_ordered kis_ordered
  have Bis_ordered := Fis_ordered.binds (ps := ["couple"]) fun _ _ _ _ _ _ us hl => match us, hl with | [_], _ => rfl
  have Fkey_of := fun_mk (st := K11.s_key_of) lkey_of ckey_of kkey_of
  have Bkey_of := Fkey_of.binds (ps := ["couple"]) fun _ _ _ _ _ _ us hl => match us, hl with | [_], _ => rfl
  have Fsides_of := fun_mk (st := K11.s_sides_of) lsides_of csides_of ksides_of
  have Bsides_of := Fsides_of.binds (ps := ["couples"]) fun _ _ _ _ _ _ us hl => match us, hl with | [_], _ => rfl
  have Fpairs_in := fun_mk (st := K11.s_pairs_in) lpairs_in cpairs_in kpairs_in
  have Bpairs_in := Fpairs_in.binds (ps := ["fact"]) fun _ _ _ _ _ _ us hl => match us, hl with | [_], _ => rfl
  have Fpairs_of := fun_mk (st := K11.s_pairs_of) lpairs_of cpairs_of kpairs_of
  have Bpairs_of := Fpairs_of.binds (ps := ["couples"]) fun _ _ _ _ _ _ us hl => match us, hl with | [_], _ => rfl
  have Ffact_of := fun_mk (st := K11.s_fact_of) lfact_of cfact_of kfact_of
  have Bfact_of := Ffact_of.binds (ps := ["conclusion", "conditions"]) fun _ _ _ _ _ _ us hl => match us, hl with | [_, _], _ => rfl
  have F_law_dice := fun_mk (st := K11.s__law_dice) l_law_dice c_law_dice k_law_dice
  have B_law_dice := F_law_dice.binds (ps := ["script", "spot"]) fun _ _ _ _ _ _ us hl => match us, hl with | [_, _], _ => rfl
  have F_law_roll := fun_mk (st := K11.s__law_roll) l_law_roll c_law_roll k_law_roll
  have B_law_roll := F_law_roll.binds (ps := ["dice", "top"]) fun _ _ _ _ _ _ us hl => match us, hl with | [_, _], _ => rfl
  have F_law_pick := fun_mk (st := K11.s__law_pick) l_law_pick c_law_pick k_law_pick
  have B_law_pick := F_law_pick.binds (ps := ["dice", "items"]) fun _ _ _ _ _ _ us hl => match us, hl with | [_, _], _ => rfl
  have F_law_mixed := fun_mk (st := K11.s__law_mixed) l_law_mixed c_law_mixed k_law_mixed
  have B_law_mixed := F_law_mixed.binds (ps := ["dice", "items"]) fun _ _ _ _ _ _ us hl => match us, hl with | [_, _], _ => rfl
  have F_law_text := fun_mk (st := K11.s__law_text) l_law_text c_law_text k_law_text
  have B_law_text := F_law_text.binds (ps := ["term"]) fun _ _ _ _ _ _ us hl => match us, hl with | [_], _ => rfl
  have F_law_below := fun_mk (st := K11.s__law_below) l_law_below c_law_below k_law_below
  have B_law_below := F_law_below.binds (ps := ["term"]) fun _ _ _ _ _ _ us hl => match us, hl with | [_], _ => rfl
  have F_law_pair := fun_mk (st := K11.s__law_pair) l_law_pair c_law_pair k_law_pair
  have B_law_pair := F_law_pair.binds (ps := ["one", "other"]) fun _ _ _ _ _ _ us hl => match us, hl with | [_, _], _ => rfl
  have F_law_terms_in := fun_mk (st := K11.s__law_terms_in) l_law_terms_in c_law_terms_in k_law_terms_in
  have B_law_terms_in := F_law_terms_in.binds (ps := ["facts"]) fun _ _ _ _ _ _ us hl => match us, hl with | [_], _ => rfl
  have F_law_names := fun_mk (st := K11.s__law_names) l_law_names c_law_names k_law_names
  have B_law_names := F_law_names.binds (ps := ["dice", "few"]) fun _ _ _ _ _ _ us hl => match us, hl with | [_, _], _ => rfl
  have F_law_term := fun_mk (st := K11.s__law_term) l_law_term c_law_term k_law_term
  have B_law_term := F_law_term.binds (ps := ["dice", "names", "deep"]) fun _ _ _ _ _ _ us hl => match us, hl with | [_, _, _], _ => rfl
  have F_law_drawn_pair := fun_mk (st := K11.s__law_drawn_pair) l_law_drawn_pair c_law_drawn_pair k_law_drawn_pair
  have B_law_drawn_pair := F_law_drawn_pair.binds (ps := ["dice", "names", "deep"]) fun _ _ _ _ _ _ us hl => match us, hl with | [_, _, _], _ => rfl
  have F_law_raw := fun_mk (st := K11.s__law_raw) l_law_raw c_law_raw k_law_raw
  have B_law_raw := F_law_raw.binds (ps := ["dice", "known"]) fun _ _ _ _ _ _ us hl => match us, hl with | [_, _], _ => rfl
  have F_law_due := fun_mk (st := K11.s__law_due) l_law_due c_law_due k_law_due
  have B_law_due := F_law_due.binds (ps := ["told", "raw"]) fun _ _ _ _ _ _ us hl => match us, hl with | [_, _], _ => rfl
  have F_law_once := fun_mk (st := K11.s__law_once) l_law_once c_law_once k_law_once
  have B_law_once := F_law_once.binds (ps := ["terms"]) fun _ _ _ _ _ _ us hl => match us, hl with | [_], _ => rfl
  have F_law_made_right := fun_mk (st := K11.s__law_made_right) l_law_made_right c_law_made_right k_law_made_right
  have B_law_made_right := F_law_made_right.binds (ps := ["dice"]) fun _ _ _ _ _ _ us hl => match us, hl with | [_], _ => rfl
  have F_law_ten := fun_mk (st := K11.s__law_ten) l_law_ten c_law_ten k_law_ten
  have B_law_ten := F_law_ten.binds (ps := ["told", "some"]) fun _ _ _ _ _ _ us hl => match us, hl with | [_, _], _ => rfl
  have F_law_judged_right := fun_mk (st := K11.s__law_judged_right) l_law_judged_right c_law_judged_right k_law_judged_right
  have B_law_judged_right := F_law_judged_right.binds (ps := ["due"]) fun _ _ _ _ _ _ us hl => match us, hl with | [_], _ => rfl
  have Flaw := fun_mk (st := K11.s_law) llaw claw klaw
  have Blaw := Flaw.binds (ps := ["script"]) fun _ _ _ _ _ _ us hl => match us, hl with | [_], _ => rfl
  exact ⟨{ b_abs := PySem.W.mg_none_of X G zabs, b_all := PySem.W.mg_none_of X G zall, b_dict := PySem.W.mg_none_of X G zdict, b_enumerate := PySem.W.mg_none_of X G zenumerate, b_int := PySem.W.mg_none_of X G zint, b_isinstance := PySem.W.mg_none_of X G zisinstance, b_len := PySem.W.mg_none_of X G zlen, b_list := PySem.W.mg_none_of X G zlist, b_max := PySem.W.mg_none_of X G zmax, b_min := PySem.W.mg_none_of X G zmin, b_range := PySem.W.mg_none_of X G zrange, b_set := PySem.W.mg_none_of X G zset, b_sorted := PySem.W.mg_none_of X G zsorted, b_str := PySem.W.mg_none_of X G zstr, b_sum := PySem.W.mg_none_of X G zsum, b_tuple := PySem.W.mg_none_of X G ztuple, b_zip := PySem.W.mg_none_of X G zzip, CInvalidTerm := CInvalidTerm, gInvalidTerm := PySem.W.mg_of X G nInvalidTerm, xInvalidTerm := xInvalidTerm, kInvalidTerm := kInvalidTerm, bInvalidTerm := bInvalidTerm, tInvalidTerm := tInvalidTerm, eInvalidTerm := Kx.exm_self bInvalidTerm iInvalidTerm tInvalidTerm sInvalidTerm, CInvalidFact := CInvalidFact, gInvalidFact := PySem.W.mg_of X G nInvalidFact, xInvalidFact := xInvalidFact, kInvalidFact := kInvalidFact, bInvalidFact := bInvalidFact, tInvalidFact := tInvalidFact, eInvalidFact := Kx.exm_self bInvalidFact iInvalidFact tInvalidFact sInvalidFact, CInvalidOperation := CInvalidOperation, gInvalidOperation := PySem.W.mg_of X G nInvalidOperation, xInvalidOperation := xInvalidOperation, kInvalidOperation := kInvalidOperation, bInvalidOperation := bInvalidOperation, tInvalidOperation := tInvalidOperation, eInvalidOperation := Kx.exm_self bInvalidOperation iInvalidOperation tInvalidOperation sInvalidOperation, c_FIRST_WIDTH := ⟨_, PySem.W.mg_of X G zFIRST_WIDTH⟩, c_MANY_PARTS := ⟨_, PySem.W.mg_of X G zMANY_PARTS⟩, c_MAX_PLACES := ⟨_, PySem.W.mg_of X G zMAX_PLACES⟩, c_LONGEST_NAME := ⟨_, PySem.W.mg_of X G zLONGEST_NAME⟩, apreorder := fpreorder, dpreorder := _, fpreorder := Fpreorder, gpreorder := PySem.W.mg_of X G apreorder, npreorder := Bpreorder, awritten := fwritten, dwritten := _, fwritten := Fwritten, gwritten := PySem.W.mg_of X G awritten, nwritten := Bwritten, anumbered_rows := fnumbered_rows, dnumbered_rows := _, fnumbered_rows := Fnumbered_rows, gnumbered_rows := PySem.W.mg_of X G anumbered_rows, nnumbered_rows := Bnumbered_rows, asizes_of := fsizes_of, dsizes_of := _, fsizes_of := Fsizes_of, gsizes_of := PySem.W.mg_of X G asizes_of, nsizes_of := Bsizes_of, aascending := fascending, dascending := _, fascending := Fascending, gascending := PySem.W.mg_of X G aascending, nascending := Bascending, aorder_of := forder_of, dorder_of := _, forder_of := Forder_of, gorder_of := PySem.W.mg_of X G aorder_of, norder_of := Border_of, aorder_by_ranks := forder_by_ranks, dorder_by_ranks := _, forder_by_ranks := Forder_by_ranks, gorder_by_ranks := PySem.W.mg_of X G aorder_by_ranks, norder_by_ranks := Border_by_ranks, aranked := franked, dranked := _, franked := Franked, granked := PySem.W.mg_of X G aranked, nranked := Branked, adense := fdense, ddense := _, fdense := Fdense, gdense := PySem.W.mg_of X G adense, ndense := Bdense, ais_name := fis_name, dis_name := _, fis_name := Fis_name, gis_name := PySem.W.mg_of X G ais_name, nis_name := Bis_name, ais_term := fis_term, dis_term := _, fis_term := Fis_term, gis_term := PySem.W.mg_of X G ais_term, nis_term := Bis_term, acheck_term := fcheck_term, dcheck_term := _, fcheck_term := Fcheck_term, gcheck_term := PySem.W.mg_of X G acheck_term, ncheck_term := Bcheck_term, ajoint_places := fjoint_places, djoint_places := _, fjoint_places := Fjoint_places, gjoint_places := PySem.W.mg_of X G ajoint_places, njoint_places := Bjoint_places, ahas_form := fhas_form, dhas_form := _, fhas_form := Fhas_form, ghas_form := PySem.W.mg_of X G ahas_form, nhas_form := Bhas_form, aby_name := fby_name, dby_name := _, fby_name := Fby_name, gby_name := PySem.W.mg_of X G aby_name, nby_name := Bby_name, ais_pair := fis_pair, dis_pair := _, fis_pair := Fis_pair, gis_pair := PySem.W.mg_of X G ais_pair, nis_pair := Bis_pair, ais_fact := fis_fact, dis_fact := _, fis_fact := Fis_fact, gis_fact := PySem.W.mg_of X G ais_fact, nis_fact := Bis_fact, amake_pair := fmake_pair, dmake_pair := _, fmake_pair := Fmake_pair, gmake_pair := PySem.W.mg_of X G amake_pair, nmake_pair := Bmake_pair, amake_fact := fmake_fact, dmake_fact := _, fmake_fact := Fmake_fact, gmake_fact := PySem.W.mg_of X G amake_fact, aplaces_in := fplaces_in, dplaces_in := _, fplaces_in := Fplaces_in, gplaces_in := PySem.W.mg_of X G aplaces_in, nplaces_in := Bplaces_in, aterms_of := fterms_of, dterms_of := _, fterms_of := Fterms_of, gterms_of := PySem.W.mg_of X G aterms_of, nterms_of := Bterms_of, anodes_of := fnodes_of, dnodes_of := _, fnodes_of := Fnodes_of, gnodes_of := PySem.W.mg_of X G anodes_of, nnodes_of := Bnodes_of, acheck_fact := fcheck_fact, dcheck_fact := _, fcheck_fact := Fcheck_fact, gcheck_fact := PySem.W.mg_of X G acheck_fact, ncheck_fact := Bcheck_fact, ais_couple := fis_couple, dis_couple := _, fis_couple := Fis_couple, gis_couple := PySem.W.mg_of X G ais_couple, nis_couple := Bis_couple, aare_couples := fare_couples, dare_couples := _, fare_couples := Fare_couples, gare_couples := PySem.W.mg_of X G aare_couples, nare_couples := Bare_couples, ais_ordered := fis_ordered, dis_ordered := _, fis_ordered := Fis_ordered, gis_ordered := PySem.W.mg_of X G ais_ordered, nis_ordered := Bis_ordered, akey_of := fkey_of, dkey_of := _, fkey_of := Fkey_of, gkey_of := PySem.W.mg_of X G akey_of, nkey_of := Bkey_of, asides_of := fsides_of, dsides_of := _, fsides_of := Fsides_of, gsides_of := PySem.W.mg_of X G asides_of, nsides_of := Bsides_of, apairs_in := fpairs_in, dpairs_in := _, fpairs_in := Fpairs_in, gpairs_in := PySem.W.mg_of X G apairs_in, npairs_in := Bpairs_in, apairs_of := fpairs_of, dpairs_of := _, fpairs_of := Fpairs_of, gpairs_of := PySem.W.mg_of X G apairs_of, npairs_of := Bpairs_of, afact_of := ffact_of, dfact_of := _, ffact_of := Ffact_of, gfact_of := PySem.W.mg_of X G afact_of, nfact_of := Bfact_of, a_law_dice := f_law_dice, d_law_dice := _, f_law_dice := F_law_dice, g_law_dice := PySem.W.mg_of X G a_law_dice, n_law_dice := B_law_dice, a_law_roll := f_law_roll, d_law_roll := _, f_law_roll := F_law_roll, g_law_roll := PySem.W.mg_of X G a_law_roll, n_law_roll := B_law_roll, a_law_pick := f_law_pick, d_law_pick := _, f_law_pick := F_law_pick, g_law_pick := PySem.W.mg_of X G a_law_pick, n_law_pick := B_law_pick, a_law_mixed := f_law_mixed, d_law_mixed := _, f_law_mixed := F_law_mixed, g_law_mixed := PySem.W.mg_of X G a_law_mixed, n_law_mixed := B_law_mixed, a_law_text := f_law_text, d_law_text := _, f_law_text := F_law_text, g_law_text := PySem.W.mg_of X G a_law_text, n_law_text := B_law_text, a_law_below := f_law_below, d_law_below := _, f_law_below := F_law_below, g_law_below := PySem.W.mg_of X G a_law_below, n_law_below := B_law_below, a_law_pair := f_law_pair, d_law_pair := _, f_law_pair := F_law_pair, g_law_pair := PySem.W.mg_of X G a_law_pair, n_law_pair := B_law_pair, a_law_terms_in := f_law_terms_in, d_law_terms_in := _, f_law_terms_in := F_law_terms_in, g_law_terms_in := PySem.W.mg_of X G a_law_terms_in, n_law_terms_in := B_law_terms_in, a_law_names := f_law_names, d_law_names := _, f_law_names := F_law_names, g_law_names := PySem.W.mg_of X G a_law_names, n_law_names := B_law_names, a_law_term := f_law_term, d_law_term := _, f_law_term := F_law_term, g_law_term := PySem.W.mg_of X G a_law_term, n_law_term := B_law_term, a_law_drawn_pair := f_law_drawn_pair, d_law_drawn_pair := _, f_law_drawn_pair := F_law_drawn_pair, g_law_drawn_pair := PySem.W.mg_of X G a_law_drawn_pair, n_law_drawn_pair := B_law_drawn_pair, a_law_raw := f_law_raw, d_law_raw := _, f_law_raw := F_law_raw, g_law_raw := PySem.W.mg_of X G a_law_raw, n_law_raw := B_law_raw, a_law_due := f_law_due, d_law_due := _, f_law_due := F_law_due, g_law_due := PySem.W.mg_of X G a_law_due, n_law_due := B_law_due, a_law_once := f_law_once, d_law_once := _, f_law_once := F_law_once, g_law_once := PySem.W.mg_of X G a_law_once, n_law_once := B_law_once, a_law_made_right := f_law_made_right, d_law_made_right := _, f_law_made_right := F_law_made_right, g_law_made_right := PySem.W.mg_of X G a_law_made_right, n_law_made_right := B_law_made_right, a_law_ten := f_law_ten, d_law_ten := _, f_law_ten := F_law_ten, g_law_ten := PySem.W.mg_of X G a_law_ten, n_law_ten := B_law_ten, a_law_judged_right := f_law_judged_right, d_law_judged_right := _, f_law_judged_right := F_law_judged_right, g_law_judged_right := PySem.W.mg_of X G a_law_judged_right, n_law_judged_right := B_law_judged_right, alaw := flaw, dlaw := _, flaw := Flaw, glaw := PySem.W.mg_of X G alaw, nlaw := Blaw }, rfl, rfl⟩

namespace K11
theorem gOf {P : Program} {w : World} {K : PySem.W.Frag} {mg : Str → Option Value} {base : Heap} {k : Nat} {f : Addr} {fd : FuncData} {ps : List Str} {sp : Sp} (F : FnOk P w K mg base CX0 k f fd ps sp) : FnG P w K mg base k f fd ps sp :=
  ⟨F.len, fun A outer s H args us vs Q E _ hr e0 b r h => F.run A outer s H args us vs Q E hr e0 b r h⟩
theorem ends {P : Program} {w : World} {K : PySem.W.Frag} {mg : Str → Option Value} {fa flaw : Addr} {kV dc pm cd ct : Value} {an : Option Addr}
    (hT : ∃ T : Tx K mg, T.alaw = flaw ∧ T.dlaw = PySem.W.fnOf "law" "law" (defArgs s_law) (defBody s_law) (defScope s_law) .none kV dc pm an cd ct) (hmg : mg "law" = some (.ref fa)) :
    ∃ fd : FuncData, (∀ (s : Shared) (u : Value), BindsTo s fd ⟨[u], []⟩ [("script", u)]) ∧ ∀ base : Heap, K.In base → base.Ns mainGlobals mg → FnG P w K mg base 20 fa fd ["script"] (spLaw K) := by
  obtain ⟨T, e1, e2⟩ := hT
  have z := T.glaw
  rw [hmg] at z
  cases z
  exact ⟨T.dlaw, fun s u => by rw [e2]; exact .of_eq rfl, fun base _ _ => gOf (ok_law T)⟩
theorem walk {l : PySem.W.OpenLaw} {q : Program} {loose : List Str} {XP : (Str → Option Value) → Heap → Prop} {YP : World → Heap → Prop} {d : DefRec} {K : Params → PySem.W.Frag} (hn : l.most = some 63) (hdf : d.params.defaults = [])
    (hY : ∀ (w : World) (h : Heap), YP w h → (K w.params).In h)
    (F : ∀ (w : World) (mg : Str → Option Value) (fa : Addr) (h : Heap), (K w.params).In h → h.Ns mainGlobals mg → mg d.name = some (.ref fa) →
      ∃ fd : FuncData, (∀ (s : Shared) (u : Value), BindsTo s fd ⟨[u], []⟩ [("script", u)]) ∧ ∀ base : Heap, (K w.params).In base → base.Ns mainGlobals mg → FnG l.prog w (K w.params) mg base 20 fa fd ["script"] (spLaw (K w.params))) :
    PySem.W.WalkO q loose XP YP l.row.toRowW d [] (fun f vs => PySem.call f vs) :=
  walk_ofG (n := 63) (k := 20) (x := "script") (sp := fun w => spLaw (K w.params)) hn (by decide) hdf ⟨rfl, by decide, by decide⟩ hY F fun _ _ a ns _ _ hS => ⟨a, ns, rfl, hS, fun _ => rfl⟩
end K11
open PySem PySem.W PyProof.Rows
set_option maxRecDepth 100000 in
set_option maxHeartbeats 0 in
theorem PySem.Challenge.cw_shownpart_k11_facts_made_holds : PySem.Challenge.rw_shownpart_k11_facts_made.Holds := by
  w_on; o_law; k_head; (case hw => w_witness2)
  k_fill
  refine K11.walk (l := PySem.Challenge.rw_shownpart_k11_facts_made) rfl rfl (fun w h Y => PySem.W.kIn_of Y) ?F
  case F =>
    intro w mg fa h KX G hmg
    refine' K11.ends (K11.tx_mk KX G ?apreorder ?lpreorder ?cpreorder ?kpreorder ?awritten ?lwritten ?cwritten ?kwritten ?anumbered_rows ?lnumbered_rows ?cnumbered_rows ?knumbered_rows ?asizes_of ?lsizes_of ?csizes_of ?ksizes_of ?aascending ?lascending ?cascending ?kascending ?aorder_of ?lorder_of ?corder_of ?korder_of ?aorder_by_ranks ?lorder_by_ranks ?corder_by_ranks ?korder_by_ranks ?aranked ?lranked ?cranked ?kranked ?adense ?ldense ?cdense ?kdense ?ais_name ?lis_name ?cis_name ?kis_name ?ais_term ?lis_term ?cis_term ?kis_term ?acheck_term ?lcheck_term ?ccheck_term ?kcheck_term ?ajoint_places ?ljoint_places ?cjoint_places ?kjoint_places ?ahas_form ?lhas_form ?chas_form ?khas_form ?aby_name ?lby_name ?cby_name ?kby_name ?ais_pair ?lis_pair ?cis_pair ?kis_pair ?ais_fact ?lis_fact ?cis_fact ?kis_fact ?amake_pair ?lmake_pair ?cmake_pair ?kmake_pair ?amake_fact ?lmake_fact ?cmake_fact ?kmake_fact ?aplaces_in ?lplaces_in ?cplaces_in ?kplaces_in ?aterms_of ?lterms_of ?cterms_of ?kterms_of ?anodes_of ?lnodes_of ?cnodes_of ?knodes_of ?acheck_fact ?lcheck_fact ?ccheck_fact ?kcheck_fact ?ais_couple ?lis_couple ?cis_couple ?kis_couple ?aare_couples ?lare_couples ?care_couples ?kare_couples ?ais_ordered ?lis_ordered ?cis_ordered ?kis_ordered ?akey_of ?lkey_of ?ckey_of ?kkey_of ?asides_of ?lsides_of ?csides_of ?ksides_of ?apairs_in ?lpairs_in ?cpairs_in ?kpairs_in ?apairs_of ?lpairs_of ?cpairs_of ?kpairs_of ?afact_of ?lfact_of ?cfact_of ?kfact_of ?a_law_dice ?l_law_dice ?c_law_dice ?k_law_dice ?a_law_roll ?l_law_roll ?c_law_roll ?k_law_roll ?a_law_pick ?l_law_pick ?c_law_pick ?k_law_pick ?a_law_mixed ?l_law_mixed ?c_law_mixed ?k_law_mixed ?a_law_text ?l_law_text ?c_law_text ?k_law_text ?a_law_below ?l_law_below ?c_law_below ?k_law_below ?a_law_pair ?l_law_pair ?c_law_pair ?k_law_pair ?a_law_terms_in ?l_law_terms_in ?c_law_terms_in ?k_law_terms_in ?a_law_names ?l_law_names ?c_law_names ?k_law_names ?a_law_term ?l_law_term ?c_law_term ?k_law_term ?a_law_drawn_pair ?l_law_drawn_pair ?c_law_drawn_pair ?k_law_drawn_pair ?a_law_raw ?l_law_raw ?c_law_raw ?k_law_raw ?a_law_due ?l_law_due ?c_law_due ?k_law_due ?a_law_once ?l_law_once ?c_law_once ?k_law_once ?a_law_made_right ?l_law_made_right ?c_law_made_right ?k_law_made_right ?a_law_ten ?l_law_ten ?c_law_ten ?k_law_ten ?a_law_judged_right ?l_law_judged_right ?c_law_judged_right ?k_law_judged_right ?alaw ?llaw ?claw ?klaw ?zabs ?zall ?zdict ?zenumerate ?zint ?zisinstance ?zlen ?zlist ?zmax ?zmin ?zrange ?zset ?zsorted ?zstr ?zsum ?ztuple ?zzip ?nInvalidTerm ?xInvalidTerm ?kInvalidTerm ?bInvalidTerm ?tInvalidTerm ?iInvalidTerm ?sInvalidTerm ?nInvalidFact ?xInvalidFact ?kInvalidFact ?bInvalidFact ?tInvalidFact ?iInvalidFact ?sInvalidFact ?nInvalidOperation ?xInvalidOperation ?kInvalidOperation ?bInvalidOperation ?tInvalidOperation ?iInvalidOperation ?sInvalidOperation ?zFIRST_WIDTH ?zMANY_PARTS ?zMAX_PLACES ?zLONGEST_NAME) hmg
    (case apreorder => k_is); (case lpreorder => k_is); (case cpreorder => k_is); (case kpreorder => k_is); (case awritten => k_is); (case lwritten => k_is); (case cwritten => k_is); (case kwritten => k_is)
    (case anumbered_rows => k_is); (case lnumbered_rows => k_is); (case cnumbered_rows => k_is); (case knumbered_rows => k_is); (case asizes_of => k_is); (case lsizes_of => k_is); (case csizes_of => k_is); (case ksizes_of => k_is)
    (case aascending => k_is); (case lascending => k_is); (case cascending => k_is); (case kascending => k_is); (case aorder_of => k_is); (case lorder_of => k_is); (case corder_of => k_is); (case korder_of => k_is)
    (case aorder_by_ranks => k_is); (case lorder_by_ranks => k_is); (case corder_by_ranks => k_is); (case korder_by_ranks => k_is); (case aranked => k_is); (case lranked => k_is); (case cranked => k_is); (case kranked => k_is)
    (case adense => k_is); (case ldense => k_is); (case cdense => k_is); (case kdense => k_is); (case ais_name => k_is); (case lis_name => k_is); (case cis_name => k_is); (case kis_name => k_is)
    (case ais_term => k_is); (case lis_term => k_is); (case cis_term => k_is); (case kis_term => k_is); (case acheck_term => k_is); (case lcheck_term => k_is); (case ccheck_term => k_is); (case kcheck_term => k_is)
    (case ajoint_places => k_is); (case ljoint_places => k_is); (case cjoint_places => k_is); (case kjoint_places => k_is); (case ahas_form => k_is); (case lhas_form => k_is); (case chas_form => k_is); (case khas_form => k_is)
    (case aby_name => k_is); (case lby_name => k_is); (case cby_name => k_is); (case kby_name => k_is); (case ais_pair => k_is); (case lis_pair => k_is); (case cis_pair => k_is); (case kis_pair => k_is)
    (case ais_fact => k_is); (case lis_fact => k_is); (case cis_fact => k_is); (case kis_fact => k_is); (case amake_pair => k_is); (case lmake_pair => k_is); (case cmake_pair => k_is); (case kmake_pair => k_is)
    (case amake_fact => k_is); (case lmake_fact => k_is); (case cmake_fact => k_is); (case kmake_fact => k_is); (case aplaces_in => k_is); (case lplaces_in => k_is); (case cplaces_in => k_is); (case kplaces_in => k_is)
    (case aterms_of => k_is); (case lterms_of => k_is); (case cterms_of => k_is); (case kterms_of => k_is); (case anodes_of => k_is); (case lnodes_of => k_is); (case cnodes_of => k_is); (case knodes_of => k_is)
    (case acheck_fact => k_is); (case lcheck_fact => k_is); (case ccheck_fact => k_is); (case kcheck_fact => k_is); (case ais_couple => k_is); (case lis_couple => k_is); (case cis_couple => k_is); (case kis_couple => k_is)
    (case aare_couples => k_is); (case lare_couples => k_is); (case care_couples => k_is); (case kare_couples => k_is); (case ais_ordered => k_is); (case lis_ordered => k_is); (case cis_ordered => k_is); (case kis_ordered => k_is)
    (case akey_of => k_is); (case lkey_of => k_is); (case ckey_of => k_is); (case kkey_of => k_is); (case asides_of => k_is); (case lsides_of => k_is); (case csides_of => k_is); (case ksides_of => k_is)
    (case apairs_in => k_is); (case lpairs_in => k_is); (case cpairs_in => k_is); (case kpairs_in => k_is); (case apairs_of => k_is); (case lpairs_of => k_is); (case cpairs_of => k_is); (case kpairs_of => k_is)
    (case afact_of => k_is); (case lfact_of => k_is); (case cfact_of => k_is); (case kfact_of => k_is); (case a_law_dice => k_is); (case l_law_dice => k_is); (case c_law_dice => k_is); (case k_law_dice => k_is)
    (case a_law_roll => k_is); (case l_law_roll => k_is); (case c_law_roll => k_is); (case k_law_roll => k_is); (case a_law_pick => k_is); (case l_law_pick => k_is); (case c_law_pick => k_is); (case k_law_pick => k_is)
    (case a_law_mixed => k_is); (case l_law_mixed => k_is); (case c_law_mixed => k_is); (case k_law_mixed => k_is); (case a_law_text => k_is); (case l_law_text => k_is); (case c_law_text => k_is); (case k_law_text => k_is)
    (case a_law_below => k_is); (case l_law_below => k_is); (case c_law_below => k_is); (case k_law_below => k_is); (case a_law_pair => k_is); (case l_law_pair => k_is); (case c_law_pair => k_is); (case k_law_pair => k_is)
    (case a_law_terms_in => k_is); (case l_law_terms_in => k_is); (case c_law_terms_in => k_is); (case k_law_terms_in => k_is); (case a_law_names => k_is); (case l_law_names => k_is); (case c_law_names => k_is); (case k_law_names => k_is)
    (case a_law_term => k_is); (case l_law_term => k_is); (case c_law_term => k_is); (case k_law_term => k_is); (case a_law_drawn_pair => k_is); (case l_law_drawn_pair => k_is); (case c_law_drawn_pair => k_is); (case k_law_drawn_pair => k_is)
    (case a_law_raw => k_is); (case l_law_raw => k_is); (case c_law_raw => k_is); (case k_law_raw => k_is); (case a_law_due => k_is); (case l_law_due => k_is); (case c_law_due => k_is); (case k_law_due => k_is)
    (case a_law_once => k_is); (case l_law_once => k_is); (case c_law_once => k_is); (case k_law_once => k_is); (case a_law_made_right => k_is); (case l_law_made_right => k_is); (case c_law_made_right => k_is); (case k_law_made_right => k_is)
    (case a_law_ten => k_is); (case l_law_ten => k_is); (case c_law_ten => k_is); (case k_law_ten => k_is); (case a_law_judged_right => k_is); (case l_law_judged_right => k_is); (case c_law_judged_right => k_is); (case k_law_judged_right => k_is)
    (case alaw => k_is); (case llaw => k_is); (case claw => k_is); (case klaw => k_is); (case zabs => k_is); (case zall => k_is); (case zdict => k_is); (case zenumerate => k_is)
    (case zint => k_is); (case zisinstance => k_is); (case zlen => k_is); (case zlist => k_is); (case zmax => k_is); (case zmin => k_is); (case zrange => k_is); (case zset => k_is)
    (case zsorted => k_is); (case zstr => k_is); (case zsum => k_is); (case ztuple => k_is); (case zzip => k_is); (case nInvalidTerm => k_is); (case xInvalidTerm => k_exc); (case kInvalidTerm => k_is)
    (case bInvalidTerm => k_is); (case tInvalidTerm => k_is); (case iInvalidTerm => k_is); (case sInvalidTerm => first | rfl | k_is); (case nInvalidFact => k_is); (case xInvalidFact => k_exc); (case kInvalidFact => k_is); (case bInvalidFact => k_is)
    (case tInvalidFact => k_is); (case iInvalidFact => k_is); (case sInvalidFact => first | rfl | k_is); (case nInvalidOperation => k_is); (case xInvalidOperation => k_exc); (case kInvalidOperation => k_is); (case bInvalidOperation => k_is); (case tInvalidOperation => k_is)
    (case iInvalidOperation => k_is); (case sInvalidOperation => first | rfl | k_is); (case zFIRST_WIDTH => k_is); (case zMANY_PARTS => k_is); (case zMAX_PLACES => k_is); (case zLONGEST_NAME => k_is)
